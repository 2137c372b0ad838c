/-
  Trees of one's own: data whose slices lie in blocks that nobody else has, each slice in another one. No condition.
-/
import Derived.Test.YtclkehekhdfnnaaJSVLib
set_option maxHeartbeats 4000000
set_option maxRecDepth 100000
set_option linter.unusedVariables false
set_option linter.unusedSimpArgs false
namespace Go.Proofs.Ytclkehekhdfnnaa
open Go.RowKit
inductive Sep (w : World) : Blocks → D → Value → Prop where
 | v (B : Blocks) (x : Value) (hB : ∀ b,¬ B b) : Sep w B (.v x) x
 | sl0 (B : Blocks) (s : Nat) (a : Option Addr) (cap : Nat) (hB : ∀ b,¬ B b) : Sep w B (.sl s []) (.slice a 0 cap)
 | agg (B : Blocks) (Bs : Nat → Blocks) (cs : List D) (us : List Value) (hl : us.length = cs.length) (h1 : ∀ (u : Value),u ∈ us → u.oneCell' = true)
   (hr : ∀ (i : Nat) (d : D) (u : Value),cs[i]? = some d → us[i]? = some u → Sep w (Bs i) d u)
   (hd : ∀ i j b,i < cs.length → j < cs.length → Bs i b → Bs j b → i = j) (hB : ∀ b,B b ↔ ∃ i,i < cs.length ∧ Bs i b) : Sep w B (.agg cs) (.agg us.toArray)
 | sl (B : Blocks) (Bs : Nat → Blocks) (s : Nat) (es : List D) (b cap : Nat) (cur : Array Value) (T : TypeId) (hs : 0 < s) (h0 : es ≠ []) (hle : es.length ≤ cap) (hlen : ∀ (e : D),e ∈ es → e.cells.length = s)
   (hb : w.heap[b]? = some (.cells cur T (0,0))) (hcap : cap * s ≤ cur.size) (h1 : ∀ (u : Value),u ∈ cur.toList.take (es.length * s) → u.oneCell' = true)
   (hr : ∀ (k : Nat) (d : D) (u : Value),(D.flat es)[k]? = some d → (cur.toList.take (es.length * s))[k]? = some u → Sep w (Bs k) d u)
   (hd : ∀ i j c,i < (D.flat es).length → j < (D.flat es).length → Bs i c → Bs j c → i = j) (hn : ∀ k,k < (D.flat es).length → ¬ Bs k b)
   (hB : ∀ c,B c ↔ c = b ∨ ∃ k,k < (D.flat es).length ∧ Bs k c) : Sep w B (.sl s es) (.slice (some ⟨b,0,none⟩) es.length cap)
theorem Sep.stable {w w' : World} {B : Blocks} {d : D} {x : Value} (h : Sep w B d x) (hw : ∀ b,B b → w'.heap[b]? = w.heap[b]?) : Sep w' B d x:=by
 induction h with
 | v B x hB=>exact .v B x hB
 | sl0 B s a cap hB=>exact .sl0 B s a cap hB
 | agg B Bs cs us hl h1 hr hd hB ih=>
  exact .agg B Bs cs us hl h1 (fun i d u hi hu=>ih i d u hi hu (fun b hb=>hw b ((hB b).2 ⟨i,(List.getElem?_eq_some_iff.1 hi).1,hb⟩))) hd hB
 | sl B Bs s es b cap cur T hs h0 hle hlen hb hcap h1 hr hd hn hB ih=>
  exact .sl B Bs s es b cap cur T hs h0 hle hlen ((hw b ((hB b).2 (.inl rfl))).trans hb) hcap h1 (fun k d u hk hu=>ih k d u hk hu (fun c hc=>hw c ((hB c).2 (.inr ⟨k,(List.getElem?_eq_some_iff.1 hk).1,hc⟩)))) hd hn hB
theorem Sep.eqv {w : World} {B B' : Blocks} {d : D} {x : Value} (h : Sep w B d x) (e : ∀ b,B' b ↔ B b) : Sep w B' d x:=by
 cases h with
 | v _ x hB=>exact .v _ x (fun b hb=>hB b ((e b).1 hb))
 | sl0 _ s a cap hB=>exact .sl0 _ s a cap (fun b hb=>hB b ((e b).1 hb))
 | agg _ Bs cs us hl h1 hr hd hB=>exact .agg _ Bs cs us hl h1 hr hd (fun b=>(e b).trans (hB b))
 | sl _ Bs s es b cap cur T hs h0 hle hlen hb hcap h1 hr hd hn hB=>exact .sl _ Bs s es b cap cur T hs h0 hle hlen hb hcap h1 hr hd hn (fun c=>(e c).trans (hB c))
theorem Sep.row {w : World} {B : Blocks} {d : D} {x : Value} (h : Sep w B d x) : ∀ b,B b → ∃ cur T,w.heap[b]? = some (.cells cur T (0,0)):=by
 induction h with
 | v B x hB=>exact fun b hb=>(hB b hb).elim
 | sl0 B s a cap hB=>exact fun b hb=>(hB b hb).elim
 | agg B Bs cs us hl h1 hr hd hB ih=>
  intro b hb
  obtain ⟨i,hi,hbi⟩:=(hB b).1 hb
  exact ih i _ (us[i]'(by omega)) (List.getElem?_eq_getElem hi) (List.getElem?_eq_getElem (by omega)) b hbi
 | sl B Bs s es b cap cur T hs h0 hle hlen hb hcap h1 hr hd hn hB ih=>
  intro c hc
  rcases (hB c).1 hc with rfl | ⟨k,hk,hck⟩
  ·exact ⟨cur,T,hb⟩
  ·have hfl : (D.flat es).length = es.length * s:=flat_len hlen
   have hkl : k < (cur.toList.take (es.length * s)).length:=by
    have hcl : cur.toList.length = cur.size:=rfl
    have : es.length * s ≤ cap * s:=Nat.mul_le_mul_right s hle
    rw [List.length_take]
    omega
   exact ih k _ _ (List.getElem?_eq_getElem hk) (List.getElem?_eq_getElem hkl) c hck
theorem Sep.fz {w : World} {B : Blocks} {d : D} {x : Value} (h : Sep w B d x) : ∀ {F : Cells} {m : Names},(∀ b o,B b → F b o) → Fz w F m d x:=by
 induction h with
 | v B x hB=>intro F m _; exact .v m x
 | sl0 B s a cap hB=>intro F m _; exact .sl0 m s a cap
 | agg B Bs cs us hl h1 hr hd hB ih=>
  intro F m hF
  exact .agg m cs us hl h1 (fun i d u hi hu=>ih i d u hi hu (fun b o hb=>hF b o ((hB b).2 ⟨i,(List.getElem?_eq_some_iff.1 hi).1,hb⟩)))
 | sl B Bs s es b cap cur T hs h0 hle hlen hb hcap h1 hr hd hn hB ih=>
  intro F m hF
  have hfl : (D.flat es).length = es.length * s:=flat_len hlen
  have hmul : es.length * s ≤ cap * s:=Nat.mul_le_mul_right s hle
  refine Fz.ofCells hs hle hlen ⟨?_,h1,fun k d u hk hu=>ih k d u hk hu (fun c o hc=>hF c o ((hB c).2 (.inr ⟨k,(List.getElem?_eq_some_iff.1 hk).1,hc⟩)))⟩ (fun j v hj=>⟨?_,hF b _ ((hB b).2 (.inl rfl))⟩)
  ·have hcl : cur.toList.length = cur.size:=rfl
   rw [List.length_take,hfl]
   omega
  ·have hj2 : j < es.length * s:=by
    have:=(List.getElem?_eq_some_iff.1 hj).1
    rw [List.length_take] at this
    omega
   rw [List.getElem?_take_of_lt hj2] at hj
   rw [Nat.zero_add,cell_of_row w b j cur T (0,0) hb,← Array.getElem?_toList]
   exact hj
structure It where
 κ : Nat
 s : Nat
 es : List D
def kD (κ s : Nat) (es : List D) : D:=if es = [] then .sl s [] else .kow κ s es.length
def treeAt (it : It) (w : World) (m : Names) (B : Blocks) : Prop:=(it.es = [] ∧ ∀ b,¬ B b) ∨ (it.es ≠ [] ∧ it.κ < nb ∧ ∃ b cap,m it.κ = some (some b) ∧ Sep w B (.sl it.s it.es) (.slice (some ⟨b,0,none⟩) it.es.length cap))
def OwnL : List It → World → Names → Blocks → Prop
 | [],_,_,B=>∀ b,¬ B b
 | it :: l,w,m,B=>∃ B1 B2,treeAt it w m B1 ∧ OwnL l w m B2 ∧ (∀ b,B1 b → ¬ B2 b) ∧ ∀ b,B b ↔ B1 b ∨ B2 b
theorem treeAt.stable {it : It} {w w' : World} {m m' : Names} {B : Blocks} (h : treeAt it w m B) (hw : ∀ b,B b → w'.heap[b]? = w.heap[b]?) (hm : it.es ≠ [] → m' it.κ = m it.κ) : treeAt it w' m' B:=by
 rcases h with h | ⟨h0,hk,b,cap,hg,hs⟩
 ·exact .inl h
 ·exact .inr ⟨h0,hk,b,cap,(hm h0).trans hg,hs.stable hw⟩
theorem treeAt.eqv {it : It} {w : World} {m : Names} {B B' : Blocks} (h : treeAt it w m B) (e : ∀ b,B' b ↔ B b) : treeAt it w m B':=by
 rcases h with ⟨h0,h⟩ | ⟨h0,hk,b,cap,hg,hs⟩
 ·exact .inl ⟨h0,fun b hb=>h b ((e b).1 hb)⟩
 ·exact .inr ⟨h0,hk,b,cap,hg,hs.eqv e⟩
theorem treeAt.row {it : It} {w : World} {m : Names} {B : Blocks} (h : treeAt it w m B) : ∀ b,B b → ∃ cur T,w.heap[b]? = some (.cells cur T (0,0)):=by
 rcases h with ⟨_,h⟩ | ⟨_,_,_,_,_,hs⟩
 ·exact fun b hb=>(h b hb).elim
 ·exact hs.row
theorem OwnL.eqv : ∀ {l : List It} {w : World} {m : Names} {B B' : Blocks},OwnL l w m B → (∀ b,B' b ↔ B b) → OwnL l w m B'
 | [],_,_,_,_,h,e=>fun b hb=>h b ((e b).1 hb)
 | _ :: _,_,_,_,_,⟨B1,B2,h1,h2,h3,h4⟩,e=>⟨B1,B2,h1,h2,h3,fun b=>(e b).trans (h4 b)⟩
theorem OwnL.stable : ∀ {l : List It} {w w' : World} {m m' : Names} {B : Blocks},OwnL l w m B → (∀ b,B b → w'.heap[b]? = w.heap[b]?) → (∀ it,it ∈ l → it.es ≠ [] → m' it.κ = m it.κ) → OwnL l w' m' B
 | [],_,_,_,_,_,h,_,_=>h
 | it :: l,_,_,_,_,_,⟨B1,B2,h1,h2,h3,h4⟩,hw,hm=>⟨B1,B2,h1.stable (fun b hb=>hw b ((h4 b).2 (.inl hb))) (hm it (List.mem_cons_self ..)),h2.stable (fun b hb=>hw b ((h4 b).2 (.inr hb))) (fun x hx=>hm x (List.mem_cons_of_mem _ hx)),h3,h4⟩
theorem OwnL.row : ∀ {l : List It} {w : World} {m : Names} {B : Blocks},OwnL l w m B → ∀ b,B b → ∃ cur T,w.heap[b]? = some (.cells cur T (0,0))
 | [],_,_,_,h,b,hb=>(h b hb).elim
 | _ :: _,_,_,_,⟨B1,B2,h1,h2,_,h4⟩,b,hb=>((h4 b).1 hb).elim (h1.row b) (h2.row b)
theorem OwnL.perm {l l' : List It} (p : l.Perm l') : ∀ {w : World} {m : Names} {B : Blocks},OwnL l w m B → OwnL l' w m B:=by
 induction p with
 | nil=>exact fun h=>h
 | cons x _ ih=>exact fun ⟨B1,B2,h1,h2,h3,h4⟩=>⟨B1,B2,h1,ih h2,h3,h4⟩
 | swap x y l=>
  rintro w m B ⟨B1,B2,h1,⟨B3,B4,h5,h6,h7,h8⟩,h3,h4⟩
  refine ⟨B3,fun b=>B1 b ∨ B4 b,h5,⟨B1,B4,h1,h6,fun b hb h9=>h3 b hb ((h8 b).2 (.inr h9)),fun b=>Iff.rfl⟩,fun b hb h9=>?_,fun b=>?_⟩
  ·rcases h9 with h9 | h9
   ·exact h3 b h9 ((h8 b).2 (.inl hb))
   ·exact h7 b hb h9
  ·rw [h4 b,h8 b]
   constructor
   ·rintro (h | h | h)
    ·exact .inr (.inl h)
    ·exact .inl h
    ·exact .inr (.inr h)
   ·rintro (h | h | h)
    ·exact .inr (.inl h)
    ·exact .inl h
    ·exact .inr (.inr h)
 | trans _ _ ih1 ih2=>exact fun h=>ih2 (ih1 h)
theorem OwnL.split : ∀ {l l' : List It} {w : World} {m : Names} {B : Blocks},OwnL (l ++ l') w m B → ∃ B1 B2,OwnL l w m B1 ∧ OwnL l' w m B2 ∧ (∀ b,B1 b → ¬ B2 b) ∧ ∀ b,B b ↔ B1 b ∨ B2 b
 | [],l',w,m,B,h=>⟨noBlocks,B,fun _ hb=>hb,h,fun _ hb=>hb.elim,fun b=>⟨.inr,fun hb=>hb.elim (fun x=>x.elim) id⟩⟩
 | it :: l,l',w,m,B,⟨B1,B2,h1,h2,h3,h4⟩=>by
  obtain ⟨B3,B4,h5,h6,h7,h8⟩:=h2.split
  refine ⟨fun b=>B1 b ∨ B3 b,B4,⟨B1,B3,h1,h5,fun b hb h9=>h3 b hb ((h8 b).2 (.inl h9)),fun b=>Iff.rfl⟩,h6,fun b hb h9=>?_,fun b=>?_⟩
  ·rcases hb with hb | hb
   ·exact h3 b hb ((h8 b).2 (.inr h9))
   ·exact h7 b hb h9
  ·rw [h4 b,h8 b,or_assoc]
theorem OwnL.join : ∀ {l l' : List It} {w : World} {m : Names} {B1 B2 B : Blocks},OwnL l w m B1 → OwnL l' w m B2 → (∀ b,B1 b → ¬ B2 b) → (∀ b,B b ↔ B1 b ∨ B2 b) → OwnL (l ++ l') w m B
 | [],l',w,m,B1,B2,B,h1,h2,h3,h4=>h2.eqv (fun b=>(h4 b).trans ⟨fun h=>h.elim (fun x=>(h1 b x).elim) id,.inr⟩)
 | it :: l,l',w,m,B1,B2,B,⟨B3,B4,h5,h6,h7,h8⟩,h2,h3,h4=>
  ⟨B3,fun b=>B4 b ∨ B2 b,h5,OwnL.join h6 h2 (fun b hb=>h3 b ((h8 b).2 (.inr hb))) (fun _=>Iff.rfl),fun b hb h9=>h9.elim (h7 b hb) (h3 b ((h8 b).2 (.inl hb))),fun b=>by rw [h4 b,h8 b,or_assoc]⟩
end Go.Proofs.Ytclkehekhdfnnaa
