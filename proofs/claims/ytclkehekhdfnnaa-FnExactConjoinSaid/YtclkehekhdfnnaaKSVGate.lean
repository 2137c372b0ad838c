/-
  What comes in, as plain data: numbers, values, rows, expressions. No condition.
-/
import Derived.Deep.Slices
import Derived.ChangeSame
import Derived.Test.YtclkehekhdfnnaaJSVCall
import Derived.Test.YtclkehekhdfnnaaKSVSem
import Derived.Test.YtclkehekhdfnnaaJSFactsC
set_option maxHeartbeats 4000000
set_option maxRecDepth 100000
namespace Go.Proofs.Ytclkehekhdfnnaa
open Go.ChangeShapes Go.WideShapes Go.ChangeAt Go.RowKit Go.Joins Go.Deep
def big : Nat:=9223372036854775807
section
variable {H : Type} {enc : TypeId × Value → H} {W : World} {base b0 : Nat} {held : Bool} {r : Reach} {v : Value} {d : DataW H} {p : List MemPlace}
theorem add_lit (b o j : Nat) : (⟨b,o,none⟩ : Addr).add j = ⟨b,o + j,none⟩:=by cases j <;> rfl
theorem slice_fz {P : Program} {t u : TypeId} {s : Nat} (ht : P.underlying t = some (.slice u)) (hs : P.cellsOf u = s) (h0 : 0 < s) {α : Type} (toD : α → D) (Q : α → Prop) {fuel : Nat} {cs : List Value} {x : DataW H × List MemPlace}
  (h : DataW.trod enc P W base (fun _=>true) held fuel t cs = some x)
  (hel : ∀ n',n' < fuel → ∀ cs' x',DataW.trod enc P W base (fun _=>true) held n' u cs' = some x' → ∃ a : α,(toD a).cells.length = s ∧ CellsOK W (allOf W) noNames (toD a).cells cs' ∧ Q a) :
  ∃ al : List α,(∀ a,a ∈ al → Q a) ∧ al.length ≤ big ∧ CellsOK W (allOf W) noNames [.sl s (al.map toD)] cs:=by
 have one : ∀ y : Value,y.oneCell' = true → ∀ e : D,Fz W (allOf W) noNames e y → CellsOK W (allOf W) noNames [e] [y]:=by
  intro y hy e he
  refine ⟨rfl,fun u hu=>by rw [List.mem_singleton.1 hu]; exact hy,fun j d' u hd hu=>?_⟩
  rcases j with _ | j
  ·obtain rfl : e = d':=by simpa using hd
   obtain rfl : y = u:=by simpa using hu
   exact he
  ·simp at hd
 rcases DataW.trod_slice ht h with ⟨rfl,_⟩ | ⟨a,len,cap,elems,rest,n',rfl,rfl,_,_,hcap,hm,hlen,hget,_,_⟩
 ·exact ⟨[],(fun _ h=>by cases h),Nat.zero_le _,one _ rfl _ (.sl0 _ s none 0)⟩
 ·have step : ∀ k,k ≤ len → ∃ (al : List α) (us : List Value),al.length = k ∧ us.length = k * s ∧ (∀ a,a ∈ al → Q a) ∧ (∀ e,e ∈ al.map toD → e.cells.length = s) ∧ CellsOK W (allOf W) noNames (D.flat (al.map toD)) us ∧ ∀ j y,us[j]? = some y → W.cell? (a.add j) = some y:=by
   intro k
   induction k with
   | zero=>intro _; exact ⟨[],[],rfl,by simp,(fun _ h=>by cases h),(fun _ h=>by cases h),CellsOK.nil,fun j y h=>by simp at h⟩
   | succ k ih=>
    intro hk
    obtain ⟨al,us,h1,h2,h3,h4,h5,h6⟩:=ih (by omega)
    have h7:=hget k (by omega)
    rw [hs,List.getElem?_eq_getElem (by omega)] at h7
    obtain ⟨cs',hc,ht'⟩:=Option.bind_eq_some_iff.1 h7
    obtain ⟨e,he,hce,hq⟩:=hel n' (by omega) cs' _ ht'
    obtain ⟨hl',_,hat⟩:=World.cells?_some hc
    have hcl : cs'.length = s:=by rw [hce.len,he]
    refine ⟨al ++ [e],us ++ cs',by simp [h1],by rw [List.length_append,h2,hcl,Nat.add_mul]; omega,fun z hz=>?_,fun z hz=>?_,?_,fun j y hj=>?_⟩
    ·rcases List.mem_append.1 hz with hz | hz
     ·exact h3 z hz
     ·obtain rfl : z = e:=by simpa using hz
      exact hq
    ·rw [List.map_append] at hz
     rcases List.mem_append.1 hz with hz | hz
     ·exact h4 z hz
     ·obtain rfl : z = toD e:=by simpa using hz
      exact he
    ·have : D.flat ((al ++ [e]).map toD) = D.flat (al.map toD) ++ (toD e).cells:=by
      unfold D.flat
      rw [List.map_append,List.flatMap_append,List.map_cons,List.map_nil,List.flatMap_cons,List.flatMap_nil,List.append_nil]
     rw [this]
     exact h5.append hce
    ·by_cases hjl : j < us.length
     ·rw [List.getElem?_append_left hjl] at hj
      exact h6 j y hj
     ·rw [List.getElem?_append_right (by omega)] at hj
      have hlt : j - us.length < s:=by
       have:=(List.getElem?_eq_some_iff.1 hj).1
       omega
      have h8:=hat (j - us.length) (by omega)
      rw [Go.Deep.add_add,show k * s + (j - us.length) = j by omega] at h8
      rw [h8]
      exact hj
  obtain ⟨al,us,h1,h2,h3,h4,h5,h6⟩:=step len (Nat.le_refl _)
  refine ⟨al,h3,by unfold big; unfold maxLen at hm; omega,?_⟩
  refine one _ rfl _ ?_
  by_cases hl : len = 0
  ·subst hl
   obtain rfl : al = []:=List.length_eq_zero_iff.1 h1
   exact .sl0 _ s (some a) cap
  ·have hus : 0 < us.length:=by rw [h2]; exact Nat.mul_pos (by omega) h0
   obtain ⟨b,o,sp⟩:=a
   have h9:=h6 0 _ (List.getElem?_eq_getElem hus)
   have hsp : sp = none:=by simpa [Addr.add] using World.cell?_spot h9
   subst hsp
   have hb : b < W.heap.size:=World.block_lt_of_cell? W ⟨b,o,none⟩ (by simpa [Addr.add] using h9)
   have:=Fz.ofCells (w:=W) (F:=allOf W) (m:=noNames) (b:=b) (off:=o) (cap:=cap) h0 (by rw [List.length_map]; omega) h4 h5 (fun j y hj=>by
    have:=h6 j y hj
    rw [add_lit] at this
    exact ⟨this,hb⟩)
   rw [List.length_map,h1] at this
   exact this
theorem CellsOK.intro1 {y : Value} {e : D} (hy : y.oneCell' = true) (he : Fz W (allOf W) noNames e y) : CellsOK W (allOf W) noNames [e] [y]:=by
 refine ⟨rfl,fun u hu=>by rw [List.mem_singleton.1 hu]; exact hy,fun j d' u hd hu=>?_⟩
 rcases j with _ | j
 ·obtain rfl : e = d':=by simpa using hd
  obtain rfl : y = u:=by simpa using hu
  exact he
 ·simp at hd
theorem CellsOK.fz1 {y : Value} {e : D} (h : CellsOK W (allOf W) noNames [e] [y]) : Fz W (allOf W) noNames e y:=h.fz 0 e y rfl rfl
theorem int_fz {P : Program} {t : TypeId} (ht : P.underlying t = some (.int .i64)) {fuel : Nat} {cs : List Value} {x : DataW H × List MemPlace} {spare : Nat → Bool} (h : DataW.trod enc P W base spare held fuel t cs = some x) :
  ∃ n : Int,CellsOK W (allOf W) noNames [I n] cs:=by
 obtain ⟨k,rfl,_,_⟩:=DataW.trod_int ht h
 exact ⟨k,CellsOK.intro1 rfl (.v _ _)⟩
end
end Go.Proofs.Ytclkehekhdfnnaa
