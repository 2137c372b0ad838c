/-
  Where a walk may stand still ahead of a slice or a struct that is made. No condition.
-/
import Derived.Test.YtgpdmgaemhelgaaGreatSVStep
import Derived.Test.YtgpdmgaemhelgaaGreatJSVGo
namespace Go.Proofs.YtgpdmgaemhelgaaGreat
open Go.RowKit
section
variable {P : Program} {B : List Nat} {rd wr : List Nat} {l : List GI} {σ : Env} {acc : Option (List Ent)} {N : Env → Prop}
theorem s_mkb {d s : Nat} {n : Option Nat} {es : List D} {ps : List (Nat × Opd)} (h : evS P B rd wr (.bsl d s n es ps) false l σ acc N) : evS P B rd wr (.bsl d s n es ps) false l σ acc N:=h
theorem s_mkd {d : Nat} {zs : List D} {ps : List (Nat × Option Nat × Opd)} (h : evS P B rd wr (.build d zs ps) false l σ acc N) : evS P B rd wr (.build d zs ps) false l σ acc N:=h
end
end Go.Proofs.YtgpdmgaemhelgaaGreat
namespace Go.Proofs.YtgpdmgaemhelgaaGreat
open Go.RowKit
mutual
def D.fro (g : Nat) (bs : List D) : D → D
 | .any=>.any
 | .v x=>.v x
 | .sl a b=>.sl a b
 | .nul=>.nul
 | .agg cs=>.agg (D.froL g bs cs)
 | .tup cs=>.tup (D.froL g bs cs)
 | .ifc t d=>.ifc t (D.fro g bs d)
 | .bnd t name d=>.bnd t name (D.fro g bs d)
 | .mv f d=>.mv f (D.fro g bs d)
 | .fn f cs=>.fn f (D.froL g bs cs)
 | .ptr cs=>.ptr cs
 | .ref a o=>if a = g ∧ o ≤ bs.length then .ptr (bs.drop o) else .ref a o
 | .own h t n=>.own h t n
 | .owo h t o n=>.owo h t o n
 | .eref a b c d=>.eref a b c d
 | .obj cs=>.obj (D.froL g bs cs)
 | .row a b=>.row a b
 | .free=>.free
 | .gho l L e k=>.gho l L e k
def D.froL (g : Nat) (bs : List D) : List D → List D
 | []=>[]
 | d :: l=>D.fro g bs d :: D.froL g bs l
end
theorem D.froL_map (g : Nat) (bs : List D) : ∀ l : List D,D.froL g bs l = l.map (D.fro g bs)
 | []=>rfl
 | d :: l=>by rw [D.froL,D.froL_map g bs l]; rfl
theorem Fz.fro {w w' : World} {F F' : Cells} {T : Blocks} {m : Names} {g : Nat} {bs : List D} (c : Chg w F T w' F') (hrow : ∀ (m' : Names) (o : Nat) (x : Value),m' g = m g → Fz w F m' (.ref g o) x → o ≤ bs.length → Fz w' F' m' (.ptr (bs.drop o)) x)
  {m' : Names} {d : D} {x : Value} (h : Fz w F m' d x) : m' g = m g → Fz w' F' m' (d.fro g bs) x:=by
 have cs_at : ∀ {cs : List D} {i : Nat} {d : D},(D.froL g bs cs)[i]? = some d → ∃ e,cs[i]? = some e ∧ d = e.fro g bs:=by
  intro cs i d hd
  rw [D.froL_map,List.getElem?_map] at hd
  cases hc : cs[i]? with
  | none=>rw [hc] at hd; cases hd
  | some e=>rw [hc] at hd; exact ⟨e,rfl,by simpa using hd.symm⟩
 induction h with
 | any m x=>intro _; exact .any m x
 | v m x=>intro _; exact .v m x
 | sl0 m s a cap=>intro _; exact .sl0 m s a cap
 | sl m s es b off cap u hs hle hlen hu hr ih=>intro _; exact (Fz.sl m s es b off cap u hs hle hlen hu hr).still c
 | nul m a=>intro _; exact .nul m a
 | agg m cs us hl h1 hr ih=>
  intro hm
  rw [D.fro]
  exact .agg m _ us (by rw [D.froL_map,List.length_map]; exact hl) h1 (fun i d u hd hu=>by obtain ⟨e,he,rfl⟩:=cs_at hd; exact ih i e u he hu hm)
 | tup m cs us hl hr ih=>
  intro hm
  rw [D.fro]
  exact .tup m _ us (by rw [D.froL_map,List.length_map]; exact hl) (fun i d u hd hu=>by obtain ⟨e,he,rfl⟩:=cs_at hd; exact ih i e u he hu hm)
 | ifc m t d x h ih=>intro hm; rw [D.fro]; exact .ifc m t _ x (ih hm)
 | bnd m t name d x h ih=>intro hm; rw [D.fro]; exact .bnd m t name _ x (ih hm)
 | mv m f d x h ih=>intro hm; rw [D.fro]; exact .mv m f _ x (ih hm)
 | fn m f cs us hl hr ih=>
  intro hm
  rw [D.fro]
  exact .fn m f _ us (by rw [D.froL_map,List.length_map]; exact hl) (fun i d u hd hu=>by obtain ⟨e,he,rfl⟩:=cs_at hd; exact ih i e u he hu hm)
 | ptr m cs b off u hu hr ih=>intro _; exact (Fz.ptr m cs b off u hu hr).still c
 | ref m a o b hg=>
  intro hm
  rw [D.fro]
  split
  ·rename_i e
   obtain ⟨rfl,hn⟩:=e
   exact hrow m o _ hm (.ref m a o b hg) hn
  ·exact .ref m a o b hg
 | own m h t n b cap cur U hg hs hle hb hcap=>intro _; exact (Fz.own m h t n b cap cur U hg hs hle hb hcap).still c
 | own0 m h t a hg=>intro _; exact .own0 m h t a hg
 | owo m h t o n b cap cur U hg hs hle hb hcap=>intro _; exact (Fz.owo m h t o n b cap cur U hg hs hle hb hcap).still c
 | owo0 m h t o a cap p hg=>intro _; exact .owo0 m h t o a cap p hg
 | eref m g s i o b hg=>intro _; exact .eref m g s i o b hg
 | gho m l L e k x=>intro _; exact .gho m l L e k x
theorem D.fro_gho {g : Nat} {bs : List D} {d : D} {l e k : Nat} {L : List D} (h : d.fro g bs = .gho l L e k) : d = .gho l L e k:=by
 cases d with
 | ref a b=>rw [D.fro] at h; split at h <;> cases h
 | gho a b c d=>rw [D.fro] at h; exact h
 | _=>rw [D.fro] at h; cases h
section
variable {P : Program} {G : Ctx} {σ τ : Env} {a : Act} {w : World} {F : Cells} {m : Names} {tm : Array Value} {k : Nat}
theorem RelF.freezeO (h : RelF G τ tm w F m) {g : Nat} {bs : List D} (hg : nb ≤ g) (hr : τ g = .obj bs) (hp : D.purL bs = true) :
  ∃ F',RelF G (τ.set g .any) tm w F' m ∧ ∀ (d : D) (x : Value),Fz w F m d x → Fz w F' m (d.fro g bs) x:=by
 have hb:=h.blks g hg
 rw [hr] at hb
 have hbl : (τ g).isBlk = true:=by rw [hr]; rfl
 obtain ⟨b,cur,T,hmg,hcur,hc,hF⟩:=hb
 have hlen : cur.size = bs.length:=by have:=hc.len; simpa using this
 have c : Chg w F (fun k=>m g = some (some k)) w (F.with b bs.length):=by
  refine ⟨rfl,rfl,rfl,Nat.le_refl _,fun _ _ _=>rfl,fun b cur U z hb=>⟨cur,hb,rfl⟩,fun b o hf=>⟨.inl hf,rfl⟩,fun k o hf hk hn=>?_,Nat.le_refl _⟩
  rcases hf with hf | ⟨rfl,_⟩
  ·exact hf
  ·exact absurd hmg hn
 have hblt : b < w.heap.size:=(Array.getElem?_eq_some_iff.1 hcur).1
 refine ⟨F.with b bs.length,h.turn hg hbl c (fun k o hf=>?_) trivial (fun e=>by cases e),fun d x hx=>hx.fro c (fun m' o x hm' hx hn=>?_) rfl⟩
 ·rcases hf with hf | ⟨rfl,_⟩
  ·exact h.wf k o hf
  ·exact hblt
 ·cases hx with
  | ref _ _ _ b' hg'=>
   rw [hm',hmg] at hg'
   obtain rfl : b = b':=by simpa using hg'
   have hpl : CellsOK w F noNames bs cur.toList:=hc.pure hp
   have hcell : ∀ j,j < bs.length → w.cell? ⟨b,j,none⟩ = some (cur.toList.getD j undef) ∧ (cur.toList.getD j undef).oneCell' = true:=fun j hj=>by
    have e : cur.toList[j]? = some (cur.toList.getD j undef):=by
     rw [List.getD_eq_getElem?_getD,List.getElem?_eq_getElem (by simpa [hlen] using hj)]
     rfl
    refine ⟨?_,hpl.one _ (List.mem_of_getElem? e)⟩
    rw [cell_of_row w b j cur T (0,0) hcur,← Array.getElem?_toList]
    exact e
   refine .ptr m' (bs.drop o) b o (fun k=>cur.toList.getD (o + k) undef) (fun k hk=>?_) (fun k d hd=>?_)
   ·rw [List.length_drop] at hk
    obtain ⟨h1,h2⟩:=hcell (o + k) (by omega)
    exact ⟨h1,.inr ⟨rfl,by omega⟩,h2⟩
   ·rw [List.getElem?_drop] at hd
    have hlt:=(List.getElem?_eq_some_iff.1 hd).1
    refine (hpl.fz (o + k) d _ hd ?_).stable c (fun _ _ h=>h)
    rw [List.getD_eq_getElem?_getD,List.getElem?_eq_getElem (by simpa [hlen] using hlt)]
    rfl
def froU (σ : Env) (t g : Nat) (bs : List D) : Upd:=[(g,.any),(t,(σ t).fro g bs)]
theorem Rel.fro {t g : Nat} {bs : List D} (hR : Rel G τ a w) (ht : t < nb) (hg : nb ≤ g) (hr : τ g = .obj bs) (hp : D.purL bs = true) : Rel G (Env.put (froU τ t g bs) τ) a w:=by
 obtain ⟨hd,F,m,h⟩:=hR
 obtain ⟨F',h1,h2⟩:=h.freezeO hg hr hp
 exact ⟨hd,F',m,h1.recast ht (fun l L e k he=>by rw [Env.set_ne _ _ _ _ (by omega)]; exact D.fro_gho he) (h2 _ _ (h.slots t ht))⟩
def froO (σ : Env) (q g : Nat) (bs : List D) : Upd:=[(g,.any),(q,(σ q).fro g bs)]
def froB (σ : Env) (t q g : Nat) (bs : List D) : Upd:=[(g,.any),(q,(σ q).fro g bs),(t,(σ t).fro g bs)]
theorem wk_fro (t g : Nat) {bs : List D} (ht : t < nb) (hg : nb ≤ g) (hr : σ g = .obj bs) (hp : D.purL bs = true) : Wk k σ (Env.put (froU σ t g bs) σ):=fun _ _ _ _ hR=>hR.fro ht hg hr hp
end
attribute [go_sem] froU froO froB D.fro D.froL
end Go.Proofs.YtgpdmgaemhelgaaGreat
namespace Go.Proofs.YtgpdmgaemhelgaaGreat
open Go.RowKit

/-- An instruction with a slot, and one without, neither guarded; a call with a slot; frequent ones. -/
abbrev gi (n : Nat) (i : In) : GI := ⟨i, some n, none, false⟩
abbrev g0 (i : In) : GI := ⟨i, none, none, false⟩
abbrev gc (n f : Nat) (l : List Opd) : GI := ⟨.call n f l, some n, none, true⟩
abbrev gt (n a : Nat) : GI := ⟨.mov n (.t a), some n, none, false⟩
abbrev gk (n : Nat) (a : Int) : GI := ⟨.mov n (.k (I a)), some n, none, false⟩
abbrev gl (n a : Nat) : GI := ⟨.lod n a none, some n, none, false⟩
abbrev gs (n a s : Nat) : GI := ⟨.lod n a (some s), some n, none, false⟩
abbrev gf (n a o : Nat) : GI := ⟨.fad n a o, some n, none, false⟩
abbrev ga (n a i s : Nat) : GI := ⟨.iad n a (.t i) s, some n, none, false⟩
abbrev gn (n a : Nat) : GI := ⟨.len n (.t a), some n, none, false⟩
abbrev gb (n : Nat) (o : BinOp) (a b : Nat) : GI := ⟨.bin n o (.t a) (.t b), some n, none, false⟩
abbrev gd (n : Nat) (o : BinOp) (a : Nat) (b : Int) : GI := ⟨.bin n o (.t a) (.k (I b)), some n, none, false⟩
abbrev DC.z (r : List GI) : DC := .reg r none
end Go.Proofs.YtgpdmgaemhelgaaGreat
set_option maxHeartbeats 4000000
set_option maxRecDepth 100000
set_option linter.unusedVariables false
set_option linter.unusedSimpArgs false
namespace Go.Proofs.YtgpdmgaemhelgaaGreat
open Go.RowKit
def intsD (l : List Int) : D:=.sl 1 (l.map I)
theorem ints_pur : ∀ l : List Int,D.purL (l.map I) = true
 | []=>rfl
 | p :: l=>by rw [List.map_cons,D.purL,ints_pur l]; rfl
theorem ints_ren (L : List Nat) (l : List Int) : D.renL L (l.map I) = l.map I:=ren_pure.renL_pure L _ (ints_pur l)
attribute [go_sem] ints_pur ints_ren intsD
end Go.Proofs.YtgpdmgaemhelgaaGreat
set_option maxRecDepth 100000
namespace Go.Proofs.YtgpdmgaemhelgaaGreat
open Go.RowKit
def allOf (w : World) : Cells:=fun b _=>b < w.heap.size
theorem calls_of {P : Program} {f : FuncId} {ds : List D} (h : Does P f [] ds (Bo true) []) (w : World) (xs : List Value) (hl : xs.length = ds.length)
  (hx : ∀ (i : Nat) (d : D) (x : Value),ds[i]? = some d → xs[i]? = some x → Fz w (allOf w) noNames d x) : Calls P f xs.toArray w fun e W'=>e = .returned (.bool true) ∧ Below w.heap.size w W':=by
 refine (h w (allOf w) noNames xs hl (Nat.le_refl _) (fun b o h=>h) hx (fun i d h=>by simp at h) (fun _ _=>rfl) (fun i j b hi=>by simp at hi)).mono ?_
 rintro e w' ⟨x,F',m',rfl,c,_,_,_,hx,_⟩
 obtain rfl:=hx.v_eq
 exact ⟨rfl,c.os,c.tape,c.output,c.size,fun k hk=>c.block k hk (fun ⟨i,hi,_⟩=>by simp at hi)⟩
end Go.Proofs.YtgpdmgaemhelgaaGreat
namespace Go.Proofs.YtgpdmgaemhelgaaGreat
open Go.RowKit
noncomputable instance V.okDec (v : V) : Decidable v.ok:=Classical.propDecidable _
theorem sub_t {p : Prop} [Decidable p] (h : p) : Sub (Bo true) (Bo (decide p)):=Sub.of_eq (by rw [decide_eq_true h])
theorem sub_f {p : Prop} [Decidable p] (h : ¬ p) : Sub (Bo false) (Bo (decide p)):=Sub.of_eq (by rw [decide_eq_false h])
theorem sub_iff {p : Prop} [Decidable p] {b : Bool} (h : b = true ↔ p) : Sub (Bo b) (Bo (decide p)):=by
 by_cases hp : p
 ·rw [h.2 hp]; exact sub_t hp
 ·cases b with
  | true=>exact absurd (h.1 rfl) hp
  | false=>exact sub_f hp
theorem at_or_end {α : Type} {vs : List α} {i : Nat} (h : i ≤ vs.length) : (∃ v,vs[i]? = some v ∧ i < vs.length) ∨ i = vs.length:=by
 by_cases hi : i < vs.length
 ·exact .inl ⟨vs[i],List.getElem?_eq_getElem hi,hi⟩
 ·exact .inr (by omega)
theorem upto_next {α : Type} {p : α → Prop} {vs : List α} {i : Nat} {v : α} (hv : vs[i]? = some v) (h : ∀ (j : Nat) (u : α),j < i → vs[j]? = some u → p u) (hp : p v) : ∀ (j : Nat) (u : α),j < i + 1 → vs[j]? = some u → p u:=by
 intro j u hj hu
 by_cases e : j = i
 ·subst e
  rw [hv] at hu
  obtain rfl : v = u:=by simpa using hu
  exact hp
 ·exact h j u (by omega) hu
theorem upto_all {α : Type} {p : α → Prop} {vs : List α} (h : ∀ (j : Nat) (u : α),j < vs.length → vs[j]? = some u → p u) : ∀ u,u ∈ vs → p u:=by
 intro u hu
 obtain ⟨j,hj⟩:=List.mem_iff_getElem?.1 hu
 exact h j u (List.getElem?_eq_some_iff.1 hj).1 hj
theorem V.ok_iff (v : V) : v.ok ↔ -9999 ≤ v.n ∧ v.n ≤ 9999 ∧ (v.b = true → v.n = 0):=⟨fun h=>⟨h.lo,h.hi,h.nul⟩,fun h=>⟨h.1,h.2.1,h.2.2⟩⟩
def rowOk (vs : List V) : Prop:=(1 ≤ vs.length ∧ vs.length ≤ 6) ∧ ∀ v,v ∈ vs → v.ok
noncomputable instance rowOkDec (vs : List V) : Decidable (rowOk vs):=Classical.propDecidable _
def kidsN (k : Int) : Int:=if k = 1 ∨ k = 2 then 0 else if k = 10 ∨ k = 11 then 1 else if 3 ≤ k ∧ k ≤ 9 then 2 else -1
def leafOk (k c : Int) (v : V) (w : Int) : Prop:=if k = 1 then 0 ≤ c ∧ c ≤ w - 1 ∧ v.b = false ∧ v.n = 0 else if k = 2 then c = 0 ∧ v.ok else c = 0 ∧ v.b = false ∧ v.n = 0
theorem kidsN_le (k : Int) : kidsN k ≤ 2:=by
 unfold kidsN
 split
 ·decide
 ·split
  ·decide
  ·split <;> decide
theorem kidsN_leaf {k : Int} (h : k = 1 ∨ k = 2) : kidsN k = 0:=if_pos h
theorem leaf1 {k c w : Int} {v : V} (hk : k = 1) (hc : 0 ≤ c ∧ c ≤ w - 1) : (v.b == false && v.n == 0) = true ↔ leafOk k c v w:=by
 unfold leafOk
 rw [if_pos hk,Bool.and_eq_true,beq_iff_eq,beq_iff_eq]
 exact ⟨fun h=>⟨hc.1,hc.2,h.1,h.2⟩,fun h=>⟨h.2.2.1,h.2.2.2⟩⟩
theorem leaf1f {k c w : Int} {v : V} (hk : k = 1) (hc : ¬ (0 ≤ c ∧ c ≤ w - 1)) : ¬ leafOk k c v w:=by
 unfold leafOk
 rw [if_pos hk]
 exact fun h=>hc ⟨h.1,h.2.1⟩
theorem leaf2 {k c w : Int} {v : V} (hk : k = 2) (hc : c = 0) : v.ok ↔ leafOk k c v w:=by
 unfold leafOk
 rw [if_neg (by omega),if_pos hk]
 exact ⟨fun h=>⟨hc,h⟩,fun h=>h.2⟩
theorem leaf2f {k c w : Int} {v : V} (h1 : ¬ k = 1) (hc : ¬ c = 0) : ¬ leafOk k c v w:=by
 unfold leafOk
 rw [if_neg h1]
 split
 ·exact fun h=>hc h.1
 ·exact fun h=>hc h.1
theorem leaf3 {k c w : Int} {v : V} (h1 : ¬ k = 1) (h2 : ¬ k = 2) (hc : c = 0) : (v.b == false && v.n == 0) = true ↔ leafOk k c v w:=by
 unfold leafOk
 rw [if_neg h1,if_neg h2,Bool.and_eq_true,beq_iff_eq,beq_iff_eq]
 exact ⟨fun h=>⟨hc,h.1,h.2⟩,fun h=>⟨h.2.1,h.2.2⟩⟩
mutual
def eOk : E → Int → Nat → Prop
 | .mk k c v ks,w,d=>(ks.length : Int) = kidsN k ∧ (0 < ks.length → d ≠ 0) ∧ eOkL ks w (d - 1) ∧ leafOk k c v w
def eOkL : List E → Int → Nat → Prop
 | [],_,_=>True
 | e :: l,w,d=>eOk e w d ∧ eOkL l w d
end
theorem eOkL_iff : ∀ {l : List E} {w : Int} {d : Nat},eOkL l w d ↔ ∀ e,e ∈ l → eOk e w d
 | [],w,d=>by rw [eOkL]; exact ⟨(fun _ e h=>by cases h),fun _=>trivial⟩
 | e :: l,w,d=>by
  rw [eOkL,eOkL_iff (l:=l)]
  exact ⟨(fun h x hx=>by
   rcases List.mem_cons.1 hx with rfl | hx
   ·exact h.1
   ·exact h.2 x hx),fun h=>⟨h e (List.mem_cons_self ..),fun x hx=>h x (List.mem_cons_of_mem _ hx)⟩⟩
theorem eOk_iff (e : E) (w : Int) (d : Nat) : eOk e w d ↔ (e.ks.length : Int) = kidsN e.k ∧ (0 < e.ks.length → d ≠ 0) ∧ (∀ x,x ∈ e.ks → eOk x w (d - 1)) ∧ leafOk e.k e.c e.v w:=by
 cases e with
 | mk k c v ks=>rw [eOk,eOkL_iff]; rfl
noncomputable instance eOkDec (e : E) (w : Int) (d : Nat) : Decidable (eOk e w d):=Classical.propDecidable _
mutual
theorem E.ind {p : E → Prop} (h : ∀ e : E,(∀ x,x ∈ e.ks → p x) → p e) : ∀ e : E,p e
 | .mk k c v ks=>h (.mk k c v ks) (E.indL h ks)
theorem E.indL {p : E → Prop} (h : ∀ e : E,(∀ x,x ∈ e.ks → p x) → p e) : ∀ l : List E,∀ x,x ∈ l → p x
 | []=>fun _ hx=>by cases hx
 | e :: l=>fun x hx=>(List.mem_cons.1 hx).elim (fun he=>he.symm ▸ E.ind h e) (E.indL h l x)
end
def num (n : Int) : V:=if -9999 ≤ n ∧ n ≤ 9999 then ⟨false,n⟩ else ⟨true,0⟩
def tr (v : V) : Int:=if v.b = true then 2 else if v.n = 0 then 0 else 1
def ofTr (n : Int) : V:=if n = 2 then ⟨true,0⟩ else ⟨false,n⟩
def andTr (a b : Int) : Int:=if a = 0 ∨ b = 0 then 0 else if a = 1 ∧ b = 1 then 1 else 2
def notTr (a : Int) : Int:=if a = 2 then 2 else 1 - a
def b2i (b : Bool) : Int:=if b then 1 else 0
def comb (k : Int) (a b : V) : V:=
 if k = 8 then ofTr (andTr (tr a) (tr b)) else if k = 9 then ofTr (notTr (andTr (notTr (tr a)) (notTr (tr b)))) else
 if a.b = true ∨ b.b = true then ⟨true,0⟩ else
 if k = 3 then num (a.n + b.n) else if k = 4 then num (a.n - b.n) else if k = 5 then num (a.n * b.n) else
 if k = 6 then ⟨false,b2i (a.n == b.n)⟩ else ⟨false,b2i (decide (a.n < b.n))⟩
theorem tr_range (v : V) : 0 ≤ tr v ∧ tr v ≤ 2:=by
 unfold tr
 split
 ·decide
 ·split <;> decide
theorem notTr_range {a : Int} (h : 0 ≤ a ∧ a ≤ 2) : 0 ≤ notTr a ∧ notTr a ≤ 2:=by unfold notTr; split <;> omega
theorem andTr_range (a b : Int) : 0 ≤ andTr a b ∧ andTr a b ≤ 2:=by
 unfold andTr
 split
 ·decide
 ·split <;> decide
theorem comb8 {k : Int} {a b : V} (h : k = 8) : comb k a b = ofTr (andTr (tr a) (tr b)):=if_pos h
theorem comb9 {k : Int} {a b : V} (h : k = 9) : comb k a b = ofTr (notTr (andTr (notTr (tr a)) (notTr (tr b)))):=by unfold comb; rw [if_neg (by omega),if_pos h]
theorem combN {k : Int} {a b : V} (h8 : ¬ k = 8) (h9 : ¬ k = 9) (h : a.b = true ∨ b.b = true) : comb k a b = ⟨true,0⟩:=by unfold comb; rw [if_neg h8,if_neg h9,if_pos h]
theorem combX {k : Int} {a b : V} (h8 : ¬ k = 8) (h9 : ¬ k = 9) (ha : a.b = false) (hb : b.b = false) : comb k a b = if k = 3 then num (a.n + b.n) else if k = 4 then num (a.n - b.n) else if k = 5 then num (a.n * b.n) else
 if k = 6 then ⟨false,b2i (a.n == b.n)⟩ else ⟨false,b2i (decide (a.n < b.n))⟩:=by unfold comb; rw [if_neg h8,if_neg h9,if_neg (by rw [ha,hb]; simp)]
def V.zero : V:=⟨false,0⟩
theorem eOk_kids {e : E} {w : Int} {d : Nat} (h : eOk e w d) : ((e.k = 1 ∨ e.k = 2) ∧ e.ks = []) ∨ ((e.k = 10 ∨ e.k = 11) ∧ ∃ a,e.ks = [a] ∧ eOk a w (d - 1)) ∨ ((3 ≤ e.k ∧ e.k ≤ 9) ∧ ∃ a b,e.ks = [a,b] ∧ eOk a w (d - 1) ∧ eOk b w (d - 1)):=by
 rw [eOk_iff] at h
 obtain ⟨hn,_,hk,_⟩:=h
 unfold kidsN at hn
 split at hn
 ·rename_i h1
  exact .inl ⟨h1,List.length_eq_zero_iff.1 (by omega)⟩
 ·split at hn
  ·rename_i h1
   obtain ⟨a,ha⟩:=List.length_eq_one_iff.1 (show e.ks.length = 1 by omega)
   exact .inr (.inl ⟨h1,a,ha,hk a (by rw [ha]; exact List.mem_cons_self ..)⟩)
  ·split at hn
   ·rename_i h1
    obtain ⟨a,b,ha⟩ : ∃ a b,e.ks = [a,b]:=by
     match hks : e.ks,(show e.ks.length = 2 by omega) with
     | [a,b],_=>exact ⟨a,b,rfl⟩
    exact .inr (.inr ⟨h1,a,b,ha,hk a (by rw [ha]; exact List.mem_cons_self ..),hk b (by rw [ha]; exact List.mem_cons_of_mem _ (List.mem_cons_self ..))⟩)
   ·omega
theorem Sub.sl {s : Nat} {es fs : List D} (hl : es.length = fs.length) (hc : ∀ e,e ∈ fs → e.cells.length = s) (h : SubL (D.flat es) (D.flat fs)) : Sub (.sl s es) (.sl s fs):=fun w F m x hx=>by
 obtain ⟨h1,h2⟩:=h.spec
 cases hx with
 | sl0 _ _ a cap=>
  obtain rfl : fs = []:=List.length_eq_zero_iff.1 (by rw [← hl]; rfl)
  exact .sl0 m s a cap
 | sl _ _ _ b off cap u hs hle hlen hu hr=>
  have:=Fz.sl (w:=w) (F:=F) m s fs b off cap u hs (by omega) hc (fun k hk=>hu k (by rw [hl]; exact hk)) (fun k d hd=>by
   obtain ⟨d',hd',hsub⟩:=h2 k d hd
   exact hsub _ _ _ _ (hr k d' hd'))
  rw [← hl] at this
  exact this
theorem SubL.append : ∀ {a b c d : List D},SubL a b → SubL c d → SubL (a ++ c) (b ++ d)
 | [],[],_,_,_,h=>h
 | [],_ :: _,_,_,h,_=>h.elim
 | _ :: _,[],_,_,h,_=>h.elim
 | _ :: _,_ :: _,_,_,h,h1=>⟨h.1,SubL.append h.2 h1⟩
theorem SubL.flat_map {α : Type} (f g : α → D) : ∀ (l : List α),(∀ a,a ∈ l → SubL (f a).cells (g a).cells) → SubL (D.flat (l.map f)) (D.flat (l.map g))
 | [],_=>trivial
 | a :: l,h=>SubL.append (h a (List.mem_cons_self ..)) (SubL.flat_map f g l (fun x hx=>h x (List.mem_cons_of_mem _ hx)))
theorem Sub.slmap {α : Type} {s : Nat} (f g : α → D) (l : List α) (hg : ∀ a,a ∈ l → (g a).cells.length = s) (h : ∀ a,a ∈ l → SubL (f a).cells (g a).cells) : Sub (.sl s (l.map f)) (.sl s (l.map g)):=
 Sub.sl (by rw [List.length_map,List.length_map]) (fun e he=>by obtain ⟨a,ha,rfl⟩:=List.mem_map.1 he; exact hg a ha) (SubL.flat_map f g l h)
end Go.Proofs.YtgpdmgaemhelgaaGreat
namespace Go.Proofs.YtgpdmgaemhelgaaGreat
open Go.RowKit
section
variable {P : Program} {G : Ctx} {σ τ : Env} {a : Act} {w : World}
def frzU2 (σ : Env) (t u g s : Nat) (es : List D) : Upd:=[(g,.any),(t,(σ t).frz g s es),(u,(σ u).frz g s es)]
theorem Rel.frz2 {t u g s : Nat} {es : List D} (hR : Rel G τ a w) (ht : t < nb) (hu : u < nb) (hg : nb ≤ g) (hr : τ g = .row s es) (hp : D.purL es = true) : Rel G (Env.put (frzU2 τ t u g s es) τ) a w:=by
 obtain ⟨hd,F,m,h⟩:=hR
 obtain ⟨F',h1,h2⟩:=h.freeze hg hr hp
 refine ⟨hd,F',m,(h1.recast ht (fun l L e k he=>by rw [Env.set_ne _ _ _ _ (by omega)]; exact D.frz_gho he) (h2 _ _ (h.slots t ht))).recast hu (fun l L e k he=>?_) (h2 _ _ (h.slots u hu))⟩
 by_cases e1 : u = t
 ·subst e1
  rw [Env.set_same]
  exact he
 ·rw [Env.set_ne _ _ _ _ e1,Env.set_ne _ _ _ _ (by omega)]
  exact D.frz_gho he
theorem pre_frz2 {t u g s : Nat} {es : List D} (ht : t < nb) (hu : u < nb) (hg : nb ≤ g) (hr : σ g = .row s es) (hp : D.purL es = true) : PreOK σ (frzU2 σ t u g s es) [t,u,g] [g,t,u]:=by
 refine ⟨fun p hpp=>?_,fun G τ a x hag hR=>?_⟩
 ·simp only [frzU2,List.mem_cons,List.not_mem_nil,or_false] at hpp
  rcases hpp with rfl | rfl | rfl
  ·exact List.mem_cons_self ..
  ·exact List.mem_cons_of_mem _ (List.mem_cons_self ..)
  ·exact List.mem_cons_of_mem _ (List.mem_cons_of_mem _ (List.mem_cons_self ..))
 ·have h1:=hag t (List.mem_cons_self ..)
  have h3:=hag u (List.mem_cons_of_mem _ (List.mem_cons_self ..))
  have h2:=hag g (List.mem_cons_of_mem _ (List.mem_cons_of_mem _ (List.mem_cons_self ..)))
  have:=hR.frz2 (t:=t) (u:=u) ht hu hg (h2.trans hr) hp
  rw [show frzU2 τ t u g s es = frzU2 σ t u g s es by unfold frzU2; rw [h1,h3]] at this
  exact this
end
attribute [go_sem] frzU2
end Go.Proofs.YtgpdmgaemhelgaaGreat
