/-
  Rows are ordered; a place in an ordered list, found by halving. Plain lemmas.
-/
import Derived.Test.YtedmegmhjmabcaaJSVTbW
set_option maxHeartbeats 4000000
set_option maxRecDepth 100000
set_option linter.unusedVariables false
set_option linter.unusedSimpArgs false
namespace Go.Proofs.Ytedmegmhjmabcaa
open Go.RowKit
def keyV (v : V) : Int:=if v.b = true then -10000 else v.n
theorem cmpV_key {a b : V} (ha : a.ok) (hb : b.ok) : (cmpV a b = 0 ∧ keyV a = keyV b) ∨ (cmpV a b = -1 ∧ keyV a < keyV b) ∨ (cmpV a b = 1 ∧ keyV b < keyV a):=by
 have h1:=ha.nul
 have h2:=hb.nul
 have h3:=ha.lo
 have h4:=hb.lo
 unfold cmpV keyV
 cases hab : a.b <;> cases hbb : b.b <;> simp [hab,hbb] at h1 h2 ⊢
 all_goals (repeat' split) <;> omega
theorem cmpR_trans : ∀ (a b c : List V),a.length = b.length → b.length = c.length → (∀ v,v ∈ a → v.ok) → (∀ v,v ∈ b → v.ok) → (∀ v,v ∈ c → v.ok) → cmpR a b ≤ 0 → (cmpR b c ≤ 0 → cmpR a c ≤ 0) ∧ (cmpR b c < 0 → cmpR a c < 0)
 | [],[],[],_,_,_,_,_,_=>⟨fun h=>h,fun h=>h⟩
 | [],[],_ :: _,_,h,_,_,_,_=>by simp at h
 | [],_ :: _,_,h,_,_,_,_,_=>by simp at h
 | _ :: _,[],_,h,_,_,_,_,_=>by simp at h
 | _ :: _,_ :: _,[],_,h,_,_,_,_=>by simp at h
 | x :: a,y :: b,z :: c,h,h',ha,hb,hc,hab=>by
  have hx:=ha x (List.mem_cons_self ..)
  have hy:=hb y (List.mem_cons_self ..)
  have hz:=hc z (List.mem_cons_self ..)
  have ih:=cmpR_trans a b c (by simpa using h) (by simpa using h') (fun v hv=>ha v (List.mem_cons_of_mem _ hv)) (fun v hv=>hb v (List.mem_cons_of_mem _ hv)) (fun v hv=>hc v (List.mem_cons_of_mem _ hv))
  have k1:=cmpV_key hx hy
  have k2:=cmpV_key hy hz
  have k3:=cmpV_key hx hz
  rw [cmpR] at hab
  rw [cmpR,cmpR]
  by_cases e1 : cmpV x y = 0
  ·rw [if_pos e1] at hab
   have ih:=ih hab
   by_cases e2 : cmpV y z = 0
   ·rw [if_pos e2,if_pos (show cmpV x z = 0 by omega)]
    exact ih
   ·rw [if_neg e2,if_neg (show ¬ cmpV x z = 0 by omega)]
    constructor <;> intro h <;> omega
  ·rw [if_neg e1] at hab
   by_cases e2 : cmpV y z = 0
   ·rw [if_pos e2,if_neg (show ¬ cmpV x z = 0 by omega)]
    constructor <;> intro h <;> omega
   ·rw [if_neg e2]
    by_cases e3 : cmpV x z = 0
    ·rw [if_pos e3]
     constructor <;> intro h <;> omega
    ·rw [if_neg e3]
     constructor <;> intro h <;> omega
theorem cmpV_self (a : V) : cmpV a a = 0:=cmpV_0 ⟨rfl,rfl⟩
theorem cmpR_self : ∀ a : List V,cmpR a a = 0
 | []=>rfl
 | x :: a=>by rw [cmpR,if_pos (cmpV_self x)]; exact cmpR_self a
theorem cmpV_eq {a b : V} (h : cmpV a b = 0) : a = b:=by
 unfold cmpV at h
 split at h
 ·rename_i h1
  cases a; cases b
  simp at h1
  obtain ⟨rfl,rfl⟩:=h1
  rfl
 ·split at h <;> omega
theorem cmpR_eq : ∀ {a b : List V},cmpR a b = 0 → a = b
 | [],[],_=>rfl
 | [],_ :: l,h=>by change ((0 : Nat) : Int) - ((l.length + 1 : Nat) : Int) = 0 at h; omega
 | _ :: l,[],h=>by change ((l.length + 1 : Nat) : Int) - ((0 : Nat) : Int) = 0 at h; omega
 | x :: a,y :: b,h=>by
  rw [cmpR] at h
  by_cases e : cmpV x y = 0
  ·rw [if_pos e] at h
   rw [cmpV_eq e,cmpR_eq h]
  ·rw [if_neg e] at h
   exact (e h).elim
def stepB (p : Nat → Bool) (s : Nat × Nat) : Nat × Nat:=if s.1 < s.2 then (if p ((s.1 + s.2) / 2) then (s.1,(s.1 + s.2) / 2) else ((s.1 + s.2) / 2 + 1,s.2)) else s
def itB (p : Nat → Bool) (n : Nat) : Nat → Nat × Nat
 | 0=>(0,n)
 | i + 1=>stepB p (itB p n i)
theorem itB_end {p : Nat → Bool} {n i : Nat} (h : ¬ (itB p n i).1 < (itB p n i).2) : ∀ d,itB p n (i + d) = itB p n i
 | 0=>rfl
 | d + 1=>by
  rw [← Nat.add_assoc,itB,itB_end h d]
  unfold stepB
  rw [if_neg h]
theorem itB_inv {p : Nat → Bool} {n : Nat} (hp : ∀ i j,i ≤ j → j < n → p i = true → p j = true) : ∀ i,((itB p n i).1 ≤ (itB p n i).2 ∧ (itB p n i).2 ≤ n ∧ (itB p n i).2 - (itB p n i).1 + i ≤ max n i) ∧ (∀ j,j < (itB p n i).1 → p j = false) ∧ (∀ j,(itB p n i).2 ≤ j → j < n → p j = true)
 | 0=>⟨⟨Nat.zero_le _,Nat.le_refl _,by show n - 0 + 0 ≤ max n 0; omega⟩,fun j hj=>absurd hj (Nat.not_lt_zero j),fun j (h1 : n ≤ j) h2=>by omega⟩
 | i + 1=>by
  obtain ⟨⟨h1,h2,h3⟩,h4,h5⟩:=itB_inv hp i
  rw [itB]
  generalize itB p n i = s at h1 h2 h3 h4 h5
  obtain ⟨lo,hi⟩:=s
  simp only at h1 h2 h3 h4 h5
  unfold stepB
  by_cases hlt : lo < hi
  ·simp only [hlt,if_true]
   cases hm : p ((lo + hi) / 2) with
   | true=>
    simp only [if_true]
    refine ⟨⟨by omega,by omega,by omega⟩,h4,fun j hj hjn=>?_⟩
    exact hp _ j hj hjn hm
   | false=>
    simp only [Bool.false_eq_true,if_false]
    refine ⟨⟨by omega,by omega,by omega⟩,fun j hj=>?_,h5⟩
    cases hj' : p j with
    | false=>rfl
    | true=>rw [hp j ((lo + hi) / 2) (by omega) (by omega) hj'] at hm; cases hm
  ·simp only [hlt,if_false]
   exact ⟨⟨h1,h2,by omega⟩,h4,h5⟩
end Go.Proofs.Ytedmegmhjmabcaa
