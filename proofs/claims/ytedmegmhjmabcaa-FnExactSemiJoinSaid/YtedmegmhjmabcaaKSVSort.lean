/-
  The library's sort of a row of one's own whose elements stand still, by a comparison that is a strict weak order on them. No condition.
-/
import Derived.Shelf.SlSortCmp.NoneTotal
import Derived.Test.YtedmegmhjmabcaaJSVLib
set_option maxHeartbeats 4000000
set_option maxRecDepth 100000
set_option linter.unusedVariables false
set_option linter.unusedSimpArgs false
namespace Go.Proofs.Ytedmegmhjmabcaa
open Go.RowKit Go.Shelf Go.Lib Go.Sort
def placesOf (n : Nat) (cf : _root_.Fin (n + 1) → _root_.Fin (n + 1) → Int) : Array (_root_.Fin (n + 1)):=pdq (ltOf cf) (Array.ofFn (fun i : _root_.Fin (n + 1)=>i)) 0 (n + 1) (Lib.bitLen (n + 1)) true true
def sortL {β : Type} (cf : β → β → Int) : List β → List β
 | []=>[]
 | a :: l=>(placesOf l.length (fun i j=>cf ((a :: l).get i) ((a :: l).get j))).toList.map (fun i=>(a :: l).get i)
section
variable {β : Type}
structure OrdOn (cf : β → β → Int) (Q : β → Prop) : Prop where
 irrefl : ∀ a,Q a → ¬ cf a a < 0
 trans : ∀ a b c,Q a → Q b → Q c → cf a b < 0 → cf b c < 0 → cf a c < 0
 ntrans : ∀ a b c,Q a → Q b → Q c → ¬ cf a b < 0 → ¬ cf b c < 0 → ¬ cf a c < 0
theorem swo_of {cf : β → β → Int} {Q : β → Prop} (h : OrdOn cf Q) (l : List β) (hl : ∀ a,a ∈ l → Q a) : SWO (ltOf (fun i j : _root_.Fin l.length=>cf (l.get i) (l.get j))) where
 irrefl x:=by unfold ltOf; simpa using h.irrefl _ (hl _ (List.get_mem l x))
 trans x y z h1 h2:=by
  unfold ltOf at *
  simp only [decide_eq_true_eq] at *
  exact h.trans _ _ _ (hl _ (List.get_mem l x)) (hl _ (List.get_mem l y)) (hl _ (List.get_mem l z)) h1 h2
 ntrans x y z h1 h2:=by
  unfold ltOf at *
  simp only [decide_eq_false_iff_not] at *
  exact h.ntrans _ _ _ (hl _ (List.get_mem l x)) (hl _ (List.get_mem l y)) (hl _ (List.get_mem l z)) h1 h2
theorem places_ok {cf : β → β → Int} {Q : β → Prop} (h : OrdOn cf Q) (a : β) (l : List β) (hl : ∀ b,b ∈ a :: l → Q b) :
  PermIn 0 (l.length + 1) (Array.ofFn (fun i : _root_.Fin (l.length + 1)=>i)) (placesOf l.length (fun i j=>cf ((a :: l).get i) ((a :: l).get j))) ∧
  SortedIn (ltOf (fun i j : _root_.Fin (l.length + 1)=>cf ((a :: l).get i) ((a :: l).get j))) 0 (l.length + 1) (placesOf l.length (fun i j=>cf ((a :: l).get i) ((a :: l).get j))):=by
 have hs:=pdq_sorts (ltOf (fun i j : _root_.Fin (l.length + 1)=>cf ((a :: l).get i) ((a :: l).get j))) (swo_of h (a :: l) hl) (Array.ofFn (fun i : _root_.Fin (l.length + 1)=>i)) 0 (l.length + 1) (Lib.bitLen (l.length + 1)) true true (Nat.zero_le _) (by simp) (Or.inl rfl)
 exact hs
theorem placesOf_size {cf : β → β → Int} {Q : β → Prop} (h : OrdOn cf Q) (a : β) (l : List β) (hl : ∀ b,b ∈ a :: l → Q b) : (placesOf l.length (fun i j=>cf ((a :: l).get i) ((a :: l).get j))).size = l.length + 1:=by
 have:=(places_ok h a l hl).1.1
 simpa using this
theorem sortL_perm {cf : β → β → Int} {Q : β → Prop} (h : OrdOn cf Q) : ∀ (l : List β),(∀ b,b ∈ l → Q b) → (sortL cf l).Perm l
 | [],_=>List.Perm.refl _
 | a :: l,hl=>by
  have hp:=(places_ok h a l hl).1.2.2
  have hz:=placesOf_size h a l hl
  have ex : ∀ {α : Type} (d : Array α) (n : Nat),d.size = n → d.extract 0 n = d:=fun d n h=>by subst h; exact Array.extract_size
  have e1:=ex (placesOf l.length (fun i j=>cf ((a :: l).get i) ((a :: l).get j))) (l.length + 1) hz
  have e2:=ex (Array.ofFn (fun i : _root_.Fin (l.length + 1)=>i)) (l.length + 1) (by simp)
  rw [e1,e2] at hp
  have hq:=hp.map (fun i=>(a :: l).get i)
  refine (show (sortL cf (a :: l)).Perm _ from hq).trans ?_
  rw [Array.toList_ofFn,List.map_ofFn]
  have : List.ofFn ((fun i=>(a :: l).get i) ∘ fun i : _root_.Fin (l.length + 1)=>i) = a :: l:=by
   refine List.ext_getElem (by simp) (fun i h1 h2=>?_)
   rw [List.getElem_ofFn]
   rfl
  rw [this]
theorem sortL_asc {cf : β → β → Int} {Q : β → Prop} (h : OrdOn cf Q) : ∀ (l : List β),(∀ b,b ∈ l → Q b) → (sortL cf l).Pairwise (fun a b=>¬ cf b a < 0)
 | [],_=>List.Pairwise.nil
 | a :: l,hl=>by
  have hs:=(places_ok h a l hl).2
  have hz:=placesOf_size h a l hl
  show ((placesOf l.length (fun i j=>cf ((a :: l).get i) ((a :: l).get j))).toList.map (fun i=>(a :: l).get i)).Pairwise _
  generalize placesOf l.length (fun i j=>cf ((a :: l).get i) ((a :: l).get j)) = d at *
  rw [List.pairwise_map,List.pairwise_iff_getElem]
  intro i j hi hj hij
  have hi' : i < d.size:=by simpa using hi
  have hj' : j < d.size:=by simpa using hj
  have:=hs i j (Nat.zero_le _) hij (by omega)
  unfold ltOf at this
  rw [getElem!_pos d i hi',getElem!_pos d j hj'] at this
  simpa using this
end
section
variable {α : Type} [Inhabited α] (enc : α → Value)
theorem sw_size (w : World) (blk off m : Nat) (dk : Array α) (os : Array Obj) : (sortWorld enc w blk off m dk os).heap.size = w.heap.size + os.size:=by
 unfold sortWorld grow
 simp only [Array.size_append,size_putRow]
 rfl
theorem sw_other (w : World) (blk off m : Nat) (dk : Array α) (os : Array Obj) {b : Nat} (hb : b < w.heap.size) (hne : b ≠ blk) : (sortWorld enc w blk off m dk os).heap[b]? = w.heap[b]?:=by
 unfold sortWorld grow putRow mapBlock
 rw [Array.getElem?_append_left (by simpa [Sort.ahead] using hb),Array.getElem?_modify,if_neg (fun h=>hne h.symm)]
 rfl
theorem sw_row (w : World) (blk off m : Nat) (dk : Array α) (os : Array Obj) {cur : Array Value} {T : TypeId} {z : Nat × Nat} (hb : w.heap[blk]? = some (.cells cur T z)) : (sortWorld enc w blk off m dk os).heap[blk]? = some (.cells (putCells enc off dk cur) T z):=by
 have hlt:=(Array.getElem?_eq_some_iff.1 hb).1
 unfold sortWorld grow putRow mapBlock
 rw [Array.getElem?_append_left (by simpa [Sort.ahead] using hlt),Array.getElem?_modify,if_pos rfl]
 show Option.map _ w.heap[blk]? = _
 rw [hb]
 rfl
theorem sw_chg {w : World} {F : Cells} {blk m : Nat} {dk : Array α} {os : Array Obj} {cur : Array Value} {T : TypeId} (hb : w.heap[blk]? = some (.cells cur T (0,0))) (hF : ∀ o,¬ F blk o) (wf : ∀ b o,F b o → b < w.heap.size) :
  Chg w F (fun b=>b = blk) (sortWorld enc w blk 0 m dk os) F where
 os:=rfl
 tape:=rfl
 output:=rfl
 size:=by rw [sw_size]; omega
 block b hlt hn:=sw_other enc w blk 0 m dk os hlt hn
 shape b c U z hc:=by
  by_cases e : b = blk
  ·subst e
   rw [hb] at hc
   cases hc
   exact ⟨_,sw_row enc w b 0 m dk os hb,by unfold putCells; simp⟩
  ·exact ⟨c,(sw_other enc w blk 0 m dk os (Array.getElem?_eq_some_iff.1 hc).1 e).trans hc,rfl⟩
 keep b o hf:=by
  have e : b ≠ blk:=fun e=>hF o (e ▸ hf)
  refine ⟨hf,?_⟩
  unfold World.cell?
  rw [show (sortWorld enc w blk 0 m dk os).heap[b]? = w.heap[b]? from sw_other enc w blk 0 m dk os (wf b o hf) e]
 back b o hf _ _:=hf
 drawn:=by
  show w.drawn ≤ (Sort.ahead w m).drawn
  exact Nat.le_add_right _ _
theorem grow_of {W w' : World} {F F' : Cells} (c : Chg W F (fun b=>∃ i,i < ([] : List D).length ∧ (noNames (nb + i)) = some (some b)) w' F') : ∃ q os',w' = grow (W.drewN q) os':=by
 refine ⟨w'.drawn - W.drawn,w'.heap.extract W.heap.size w'.heap.size,?_⟩
 have hd:=c.drawn
 have hh : w'.heap = W.heap ++ w'.heap.extract W.heap.size w'.heap.size:=by
  apply Array.ext_getElem?
  intro b
  rw [Array.getElem?_append]
  split
  ·rename_i hlt
   exact c.block b hlt (fun ⟨i,hi,_⟩=>by simp at hi)
  ·rename_i hge
   rw [Array.getElem?_extract]
   have hs:=c.size
   by_cases hb : b < w'.heap.size
   ·rw [if_pos (by omega)]
    congr 1
    omega
   ·rw [if_neg (by omega),Array.getElem?_eq_none (by omega)]
 have hdr : (W.drewN (w'.drawn - W.drawn)).drawn = w'.drawn:=by
  show W.drawn + (w'.drawn - W.drawn) = w'.drawn
  omega
 have h1:=c.os
 have h2:=c.tape
 have h3:=c.output
 cases w' with
 | mk heap tape drawn os output=>
  cases W with
  | mk heap0 tape0 drawn0 os0 output0=>
   simp only at h1 h2 h3 hh hdr
   subst h1 h2 h3
   unfold grow
   simp only [World.drewN] at hdr ⊢
   congr 1
   exact hdr.symm
end
section
variable {P : Program} {ρ : Ren} {β : Type}
end
end Go.Proofs.Ytedmegmhjmabcaa
