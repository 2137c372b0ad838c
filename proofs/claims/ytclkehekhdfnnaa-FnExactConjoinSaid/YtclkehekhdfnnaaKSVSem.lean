/-
  What is valid, what it is worth: values, rows, expressions. Plain definitions.
-/
import Derived.Test.YtclkehekhdfnnaaJSVLib
namespace Go.Proofs.Ytclkehekhdfnnaa
open Go.RowKit
noncomputable instance V.okDec (v : V) : Decidable v.ok:=Classical.propDecidable _
theorem sub_t {p : Prop} [Decidable p] (h : p) : Sub (Bo true) (Bo (decide p)):=Sub.of_eq (by rw [decide_eq_true h])
theorem sub_f {p : Prop} [Decidable p] (h : ¬ p) : Sub (Bo false) (Bo (decide p)):=Sub.of_eq (by rw [decide_eq_false h])
theorem sub_iff {p : Prop} [Decidable p] {b : Bool} (h : b = true ↔ p) : Sub (Bo b) (Bo (decide p)):=by
 by_cases hp : p
 ·rw [h.2 hp]; exact sub_t hp
 ·cases b with
  | true=>exact absurd (h.1 rfl) hp
  | false=>exact sub_f hp
theorem at_or_end {α : Type} {vs : List α} {i : Nat} (h : i ≤ vs.length) : (∃ v,vs[i]? = some v ∧ i < vs.length) ∨ i = vs.length:=by
 by_cases hi : i < vs.length
 ·exact .inl ⟨vs[i],List.getElem?_eq_getElem hi,hi⟩
 ·exact .inr (by omega)
theorem upto_next {α : Type} {p : α → Prop} {vs : List α} {i : Nat} {v : α} (hv : vs[i]? = some v) (h : ∀ (j : Nat) (u : α),j < i → vs[j]? = some u → p u) (hp : p v) : ∀ (j : Nat) (u : α),j < i + 1 → vs[j]? = some u → p u:=by
 intro j u hj hu
 by_cases e : j = i
 ·subst e
  rw [hv] at hu
  obtain rfl : v = u:=by simpa using hu
  exact hp
 ·exact h j u (by omega) hu
theorem upto_all {α : Type} {p : α → Prop} {vs : List α} (h : ∀ (j : Nat) (u : α),j < vs.length → vs[j]? = some u → p u) : ∀ u,u ∈ vs → p u:=by
 intro u hu
 obtain ⟨j,hj⟩:=List.mem_iff_getElem?.1 hu
 exact h j u (List.getElem?_eq_some_iff.1 hj).1 hj
theorem V.ok_iff (v : V) : v.ok ↔ -9999 ≤ v.n ∧ v.n ≤ 9999 ∧ (v.b = true → v.n = 0):=⟨fun h=>⟨h.lo,h.hi,h.nul⟩,fun h=>⟨h.1,h.2.1,h.2.2⟩⟩
def rowOk (vs : List V) : Prop:=(1 ≤ vs.length ∧ vs.length ≤ 6) ∧ ∀ v,v ∈ vs → v.ok
noncomputable instance rowOkDec (vs : List V) : Decidable (rowOk vs):=Classical.propDecidable _
def kidsN (k : Int) : Int:=if k = 1 ∨ k = 2 then 0 else if k = 10 ∨ k = 11 then 1 else if 3 ≤ k ∧ k ≤ 9 then 2 else -1
def leafOk (k c : Int) (v : V) (w : Int) : Prop:=if k = 1 then 0 ≤ c ∧ c ≤ w - 1 ∧ v.b = false ∧ v.n = 0 else if k = 2 then c = 0 ∧ v.ok else c = 0 ∧ v.b = false ∧ v.n = 0
theorem kidsN_le (k : Int) : kidsN k ≤ 2:=by
 unfold kidsN
 split
 ·decide
 ·split
  ·decide
  ·split <;> decide
theorem kidsN_leaf {k : Int} (h : k = 1 ∨ k = 2) : kidsN k = 0:=if_pos h
theorem leaf1 {k c w : Int} {v : V} (hk : k = 1) (hc : 0 ≤ c ∧ c ≤ w - 1) : (v.b == false && v.n == 0) = true ↔ leafOk k c v w:=by
 unfold leafOk
 rw [if_pos hk,Bool.and_eq_true,beq_iff_eq,beq_iff_eq]
 exact ⟨fun h=>⟨hc.1,hc.2,h.1,h.2⟩,fun h=>⟨h.2.2.1,h.2.2.2⟩⟩
theorem leaf1f {k c w : Int} {v : V} (hk : k = 1) (hc : ¬ (0 ≤ c ∧ c ≤ w - 1)) : ¬ leafOk k c v w:=by
 unfold leafOk
 rw [if_pos hk]
 exact fun h=>hc ⟨h.1,h.2.1⟩
theorem leaf2 {k c w : Int} {v : V} (hk : k = 2) (hc : c = 0) : v.ok ↔ leafOk k c v w:=by
 unfold leafOk
 rw [if_neg (by omega),if_pos hk]
 exact ⟨fun h=>⟨hc,h⟩,fun h=>h.2⟩
theorem leaf2f {k c w : Int} {v : V} (h1 : ¬ k = 1) (hc : ¬ c = 0) : ¬ leafOk k c v w:=by
 unfold leafOk
 rw [if_neg h1]
 split
 ·exact fun h=>hc h.1
 ·exact fun h=>hc h.1
theorem leaf3 {k c w : Int} {v : V} (h1 : ¬ k = 1) (h2 : ¬ k = 2) (hc : c = 0) : (v.b == false && v.n == 0) = true ↔ leafOk k c v w:=by
 unfold leafOk
 rw [if_neg h1,if_neg h2,Bool.and_eq_true,beq_iff_eq,beq_iff_eq]
 exact ⟨fun h=>⟨hc,h.1,h.2⟩,fun h=>⟨h.2.1,h.2.2⟩⟩
mutual
def eOk : E → Int → Nat → Prop
 | .mk k c v ks,w,d=>(ks.length : Int) = kidsN k ∧ (0 < ks.length → d ≠ 0) ∧ eOkL ks w (d - 1) ∧ leafOk k c v w
def eOkL : List E → Int → Nat → Prop
 | [],_,_=>True
 | e :: l,w,d=>eOk e w d ∧ eOkL l w d
end
theorem eOkL_iff : ∀ {l : List E} {w : Int} {d : Nat},eOkL l w d ↔ ∀ e,e ∈ l → eOk e w d
 | [],w,d=>by rw [eOkL]; exact ⟨(fun _ e h=>by cases h),fun _=>trivial⟩
 | e :: l,w,d=>by
  rw [eOkL,eOkL_iff (l:=l)]
  exact ⟨(fun h x hx=>by
   rcases List.mem_cons.1 hx with rfl | hx
   ·exact h.1
   ·exact h.2 x hx),fun h=>⟨h e (List.mem_cons_self ..),fun x hx=>h x (List.mem_cons_of_mem _ hx)⟩⟩
theorem eOk_iff (e : E) (w : Int) (d : Nat) : eOk e w d ↔ (e.ks.length : Int) = kidsN e.k ∧ (0 < e.ks.length → d ≠ 0) ∧ (∀ x,x ∈ e.ks → eOk x w (d - 1)) ∧ leafOk e.k e.c e.v w:=by
 cases e with
 | mk k c v ks=>rw [eOk,eOkL_iff]; rfl
noncomputable instance eOkDec (e : E) (w : Int) (d : Nat) : Decidable (eOk e w d):=Classical.propDecidable _
mutual
theorem E.ind {p : E → Prop} (h : ∀ e : E,(∀ x,x ∈ e.ks → p x) → p e) : ∀ e : E,p e
 | .mk k c v ks=>h (.mk k c v ks) (E.indL h ks)
theorem E.indL {p : E → Prop} (h : ∀ e : E,(∀ x,x ∈ e.ks → p x) → p e) : ∀ l : List E,∀ x,x ∈ l → p x
 | []=>fun _ hx=>by cases hx
 | e :: l=>fun x hx=>(List.mem_cons.1 hx).elim (fun he=>he.symm ▸ E.ind h e) (E.indL h l x)
end
def tr (v : V) : Int:=if v.b = true then 2 else if v.n = 0 then 0 else 1
def V.zero : V:=⟨false,0⟩
theorem eOk_kids {e : E} {w : Int} {d : Nat} (h : eOk e w d) : ((e.k = 1 ∨ e.k = 2) ∧ e.ks = []) ∨ ((e.k = 10 ∨ e.k = 11) ∧ ∃ a,e.ks = [a] ∧ eOk a w (d - 1)) ∨ ((3 ≤ e.k ∧ e.k ≤ 9) ∧ ∃ a b,e.ks = [a,b] ∧ eOk a w (d - 1) ∧ eOk b w (d - 1)):=by
 rw [eOk_iff] at h
 obtain ⟨hn,_,hk,_⟩:=h
 unfold kidsN at hn
 split at hn
 ·rename_i h1
  exact .inl ⟨h1,List.length_eq_zero_iff.1 (by omega)⟩
 ·split at hn
  ·rename_i h1
   obtain ⟨a,ha⟩:=List.length_eq_one_iff.1 (show e.ks.length = 1 by omega)
   exact .inr (.inl ⟨h1,a,ha,hk a (by rw [ha]; exact List.mem_cons_self ..)⟩)
  ·split at hn
   ·rename_i h1
    obtain ⟨a,b,ha⟩ : ∃ a b,e.ks = [a,b]:=by
     match hks : e.ks,(show e.ks.length = 2 by omega) with
     | [a,b],_=>exact ⟨a,b,rfl⟩
    exact .inr (.inr ⟨h1,a,b,ha,hk a (by rw [ha]; exact List.mem_cons_self ..),hk b (by rw [ha]; exact List.mem_cons_of_mem _ (List.mem_cons_self ..))⟩)
   ·omega
theorem Sub.sl {s : Nat} {es fs : List D} (hl : es.length = fs.length) (hc : ∀ e,e ∈ fs → e.cells.length = s) (h : SubL (D.flat es) (D.flat fs)) : Sub (.sl s es) (.sl s fs):=fun w F m x hx=>by
 obtain ⟨h1,h2⟩:=h.spec
 cases hx with
 | sl0 _ _ a cap=>
  obtain rfl : fs = []:=List.length_eq_zero_iff.1 (by rw [← hl]; rfl)
  exact .sl0 m s a cap
 | sl _ _ _ b off cap u hs hle hlen hu hr=>
  have:=Fz.sl (w:=w) (F:=F) m s fs b off cap u hs (by omega) hc (fun k hk=>hu k (by rw [hl]; exact hk)) (fun k d hd=>by
   obtain ⟨d',hd',hsub⟩:=h2 k d hd
   exact hsub _ _ _ _ (hr k d' hd'))
  rw [← hl] at this
  exact this
theorem SubL.append : ∀ {a b c d : List D},SubL a b → SubL c d → SubL (a ++ c) (b ++ d)
 | [],[],_,_,_,h=>h
 | [],_ :: _,_,_,h,_=>h.elim
 | _ :: _,[],_,_,h,_=>h.elim
 | _ :: _,_ :: _,_,_,h,h1=>⟨h.1,SubL.append h.2 h1⟩
end Go.Proofs.Ytclkehekhdfnnaa
