/-
  A block of one's own that stands still from now on: pointers to it are plain data. No condition.
-/
import Derived.Test.YtedmegmhjmabcaaSVStep
namespace Go.Proofs.Ytedmegmhjmabcaa
open Go.RowKit
mutual
def D.fro (g : Nat) (bs : List D) : D → D
 | .any=>.any
 | .v x=>.v x
 | .sl a b=>.sl a b
 | .nul=>.nul
 | .agg cs=>.agg (D.froL g bs cs)
 | .tup cs=>.tup (D.froL g bs cs)
 | .ifc t d=>.ifc t (D.fro g bs d)
 | .bnd t name d=>.bnd t name (D.fro g bs d)
 | .mv f d=>.mv f (D.fro g bs d)
 | .fn f cs=>.fn f (D.froL g bs cs)
 | .ptr cs=>.ptr cs
 | .ref a o=>if a = g ∧ o ≤ bs.length then .ptr (bs.drop o) else .ref a o
 | .own h t n=>.own h t n
 | .owo h t o n=>.owo h t o n
 | .eref a b c d=>.eref a b c d
 | .obj cs=>.obj (D.froL g bs cs)
 | .row a b=>.row a b
 | .free=>.free
 | .gho l L e k=>.gho l L e k
 | .kow κ t n=>.kow κ t n
 | .fam St=>.fam St
def D.froL (g : Nat) (bs : List D) : List D → List D
 | []=>[]
 | d :: l=>D.fro g bs d :: D.froL g bs l
end
theorem D.froL_map (g : Nat) (bs : List D) : ∀ l : List D,D.froL g bs l = l.map (D.fro g bs)
 | []=>rfl
 | d :: l=>by rw [D.froL,D.froL_map g bs l]; rfl
theorem Fz.fro {w w' : World} {F F' : Cells} {T : Blocks} {m : Names} {g : Nat} {bs : List D} (c : Chg w F T w' F') (hrow : ∀ (m' : Names) (o : Nat) (x : Value),m' g = m g → Fz w F m' (.ref g o) x → o ≤ bs.length → Fz w' F' m' (.ptr (bs.drop o)) x)
  {m' : Names} {d : D} {x : Value} (h : Fz w F m' d x) : m' g = m g → Fz w' F' m' (d.fro g bs) x:=by
 have cs_at : ∀ {cs : List D} {i : Nat} {d : D},(D.froL g bs cs)[i]? = some d → ∃ e,cs[i]? = some e ∧ d = e.fro g bs:=by
  intro cs i d hd
  rw [D.froL_map,List.getElem?_map] at hd
  cases hc : cs[i]? with
  | none=>rw [hc] at hd; cases hd
  | some e=>rw [hc] at hd; exact ⟨e,rfl,by simpa using hd.symm⟩
 induction h with
 | any m x=>intro _; exact .any m x
 | v m x=>intro _; exact .v m x
 | sl0 m s a cap=>intro _; exact .sl0 m s a cap
 | sl m s es b off cap u hs hle hlen hu hr ih=>intro _; exact (Fz.sl m s es b off cap u hs hle hlen hu hr).still c
 | nul m a=>intro _; exact .nul m a
 | agg m cs us hl h1 hr ih=>
  intro hm
  rw [D.fro]
  exact .agg m _ us (by rw [D.froL_map,List.length_map]; exact hl) h1 (fun i d u hd hu=>by obtain ⟨e,he,rfl⟩:=cs_at hd; exact ih i e u he hu hm)
 | tup m cs us hl hr ih=>
  intro hm
  rw [D.fro]
  exact .tup m _ us (by rw [D.froL_map,List.length_map]; exact hl) (fun i d u hd hu=>by obtain ⟨e,he,rfl⟩:=cs_at hd; exact ih i e u he hu hm)
 | ifc m t d x h ih=>intro hm; rw [D.fro]; exact .ifc m t _ x (ih hm)
 | bnd m t name d x h ih=>intro hm; rw [D.fro]; exact .bnd m t name _ x (ih hm)
 | mv m f d x h ih=>intro hm; rw [D.fro]; exact .mv m f _ x (ih hm)
 | fn m f cs us hl hr ih=>
  intro hm
  rw [D.fro]
  exact .fn m f _ us (by rw [D.froL_map,List.length_map]; exact hl) (fun i d u hd hu=>by obtain ⟨e,he,rfl⟩:=cs_at hd; exact ih i e u he hu hm)
 | ptr m cs b off u hu hr ih=>intro _; exact (Fz.ptr m cs b off u hu hr).still c
 | ref m a o b hg=>
  intro hm
  rw [D.fro]
  split
  ·rename_i e
   obtain ⟨rfl,hn⟩:=e
   exact hrow m o _ hm (.ref m a o b hg) hn
  ·exact .ref m a o b hg
 | own m h t n b cap cur U hg hs hle hb hcap=>intro _; exact (Fz.own m h t n b cap cur U hg hs hle hb hcap).still c
 | own0 m h t a hg=>intro _; exact .own0 m h t a hg
 | owo m h t o n b cap cur U hg hs hle hb hcap=>intro _; exact (Fz.owo m h t o n b cap cur U hg hs hle hb hcap).still c
 | owo0 m h t o a cap p hg=>intro _; exact .owo0 m h t o a cap p hg
 | eref m g s i o b hg=>intro _; exact .eref m g s i o b hg
 | gho m l L e k x=>intro _; exact .gho m l L e k x
 | kow m κ t n b cap cur U hκ hg hs hle hb hcap=>intro _; exact (Fz.kow m κ t n b cap cur U hκ hg hs hle hb hcap).still c
theorem D.fro_gho {g : Nat} {bs : List D} {d : D} {l e k : Nat} {L : List D} (h : d.fro g bs = .gho l L e k) : d = .gho l L e k:=by
 cases d with
 | ref a b=>rw [D.fro] at h; split at h <;> cases h
 | gho a b c d=>rw [D.fro] at h; exact h
 | _=>rw [D.fro] at h; cases h
section
variable {P : Program} {G : Ctx} {σ τ : Env} {a : Act} {w : World} {F : Cells} {m : Names} {tm : Array Value} {k : Nat}
theorem RelF.freezeO (h : RelF G τ tm w F m) {g : Nat} {bs : List D} (hg : nb ≤ g) (hr : τ g = .obj bs) (hp : D.purL bs = true) :
  ∃ F',RelF G (τ.set g .any) tm w F' m ∧ ∀ (d : D) (x : Value),Fz w F m d x → Fz w F' m (d.fro g bs) x:=by
 have hb:=h.blks g hg
 rw [hr] at hb
 have hbl : (τ g).isBlk = true:=by rw [hr]; rfl
 obtain ⟨b,cur,T,hmg,hcur,hc,hF⟩:=hb
 have hlen : cur.size = bs.length:=by have:=hc.len; simpa using this
 have c : Chg w F (fun k=>m g = some (some k)) w (F.with b bs.length):=by
  refine ⟨rfl,rfl,rfl,Nat.le_refl _,fun _ _ _=>rfl,fun b cur U z hb=>⟨cur,hb,rfl⟩,fun b o hf=>⟨.inl hf,rfl⟩,fun k o hf hk hn=>?_,Nat.le_refl _⟩
  rcases hf with hf | ⟨rfl,_⟩
  ·exact hf
  ·exact absurd hmg hn
 have hblt : b < w.heap.size:=(Array.getElem?_eq_some_iff.1 hcur).1
 refine ⟨F.with b bs.length,h.turn hg hbl c (fun k o hf=>?_) trivial (fun e=>by cases e),fun d x hx=>hx.fro c (fun m' o x hm' hx hn=>?_) rfl⟩
 ·rcases hf with hf | ⟨rfl,_⟩
  ·exact h.wf k o hf
  ·exact hblt
 ·cases hx with
  | ref _ _ _ b' hg'=>
   rw [hm',hmg] at hg'
   obtain rfl : b = b':=by simpa using hg'
   have hpl : CellsOK w F noNames bs cur.toList:=hc.pure hp
   have hcell : ∀ j,j < bs.length → w.cell? ⟨b,j,none⟩ = some (cur.toList.getD j undef) ∧ (cur.toList.getD j undef).oneCell' = true:=fun j hj=>by
    have e : cur.toList[j]? = some (cur.toList.getD j undef):=by
     rw [List.getD_eq_getElem?_getD,List.getElem?_eq_getElem (by simpa [hlen] using hj)]
     rfl
    refine ⟨?_,hpl.one _ (List.mem_of_getElem? e)⟩
    rw [cell_of_row w b j cur T (0,0) hcur,← Array.getElem?_toList]
    exact e
   refine .ptr m' (bs.drop o) b o (fun k=>cur.toList.getD (o + k) undef) (fun k hk=>?_) (fun k d hd=>?_)
   ·rw [List.length_drop] at hk
    obtain ⟨h1,h2⟩:=hcell (o + k) (by omega)
    exact ⟨h1,.inr ⟨rfl,by omega⟩,h2⟩
   ·rw [List.getElem?_drop] at hd
    have hlt:=(List.getElem?_eq_some_iff.1 hd).1
    refine (hpl.fz (o + k) d _ hd ?_).stable c (fun _ _ h=>h)
    rw [List.getD_eq_getElem?_getD,List.getElem?_eq_getElem (by simpa [hlen] using hlt)]
    rfl
def froU (σ : Env) (t g : Nat) (bs : List D) : Upd:=[(g,.any),(t,(σ t).fro g bs)]
theorem Rel.fro {t g : Nat} {bs : List D} (hR : Rel G τ a w) (ht : t < nb) (hg : nb ≤ g) (hr : τ g = .obj bs) (hp : D.purL bs = true) : Rel G (Env.put (froU τ t g bs) τ) a w:=by
 obtain ⟨hd,F,m,h⟩:=hR
 obtain ⟨F',h1,h2⟩:=h.freezeO hg hr hp
 exact ⟨hd,F',m,h1.recast ht (fun l L e k he=>by rw [Env.set_ne _ _ _ _ (by omega)]; exact D.fro_gho he) (h2 _ _ (h.slots t ht))⟩
def froO (σ : Env) (q g : Nat) (bs : List D) : Upd:=[(g,.any),(q,(σ q).fro g bs)]
def froB (σ : Env) (t q g : Nat) (bs : List D) : Upd:=[(g,.any),(q,(σ q).fro g bs),(t,(σ t).fro g bs)]
end
attribute [go_sem] froU froO froB D.fro D.froL
end Go.Proofs.Ytedmegmhjmabcaa
