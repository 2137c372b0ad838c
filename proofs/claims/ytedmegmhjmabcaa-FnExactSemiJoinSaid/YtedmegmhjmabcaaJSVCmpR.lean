/-
  Tables compared by the laws. No condition.
-/
import Derived.Test.YtedmegmhjmabcaaJSVGateV
import Derived.Test.YtedmegmhjmabcaaJSVCol
import Derived.Test.YtedmegmhjmabcaaJSVCall
import Derived.Test.YtedmegmhjmabcaaJSVTbW
set_option maxHeartbeats 4000000
set_option maxRecDepth 100000
set_option linter.unusedVariables false
set_option linter.unusedSimpArgs false
namespace Go.Proofs.Ytedmegmhjmabcaa
open Go.RowKit
noncomputable instance rowsDec : DecidableEq (List (List V)):=fun a b=>Classical.propDecidable _
noncomputable instance taDec : DecidableEq Ta:=fun a b=>Classical.propDecidable _
end Go.Proofs.Ytedmegmhjmabcaa
set_option maxHeartbeats 4000000
set_option maxRecDepth 100000
namespace Go.Proofs.Ytedmegmhjmabcaa
open Go.ChangeShapes Go.WideShapes Go.ChangeAt Go.RowKit Go.Joins Go.Deep
inductive Most : E → Prop
 | mk {k c : Int} {v : V} {ks : List E} (h : ks.length ≤ big) (hk : ∀ x,x ∈ ks → Most x) : Most (.mk k c v ks)
theorem Most.len {e : E} (h : Most e) : e.ks.length ≤ big:=by cases h; assumption
section
variable {H : Type} {enc : TypeId × Value → H} {W : World} {base b0 : Nat} {held : Bool} {r : Reach} {v : Value} {d : DataW H} {p : List MemPlace}
end
end Go.Proofs.Ytedmegmhjmabcaa
set_option maxHeartbeats 4000000
set_option maxRecDepth 100000
namespace Go.Proofs.Ytedmegmhjmabcaa
open Go.ChangeShapes Go.WideShapes Go.ChangeAt Go.RowKit Go.Joins Go.Deep
def mostR (rs : List (List V)) : Prop:=rs.length ≤ big ∧ ∀ r,r ∈ rs → r.length ≤ big
theorem cells_LVS : Try.prog.cellsOf 114 = 1:=by kernel_rfl
theorem cells_LT : Try.prog.cellsOf 24 = 2:=by kernel_rfl
section
variable {H : Type} {enc : TypeId × Value → H} {W : World} {base b0 : Nat} {held : Bool} {r : Reach} {v : Value} {d : DataW H} {p : List MemPlace}
set_option maxRecDepth 100000 in
theorem trod_row {fuel : Nat} {cs : List Value} {x : DataW H × List MemPlace} (h : DataW.trod enc Try.prog W base (fun _=>true) held fuel 114 cs = some x) :
  ∃ l : List V,l.length ≤ big ∧ CellsOK W (allOf W) noNames [rowD l] cs:=by
 obtain ⟨l,_,hlen,q⟩:=slice_fz Try.underlying114 cells_LV (by decide) vD (fun _=>True) h (fun n' _ cs' x' h'=>by
  obtain ⟨m,hm⟩:=trod_Vx h'
  exact ⟨m,rfl,hm,trivial⟩)
 exact ⟨l,hlen,q⟩
set_option maxRecDepth 100000 in
theorem trod_rows {fuel : Nat} {cs : List Value} {x : DataW H × List MemPlace} (h : DataW.trod enc Try.prog W base (fun _=>true) held fuel 22 cs = some x) :
  ∃ l : List (List V),mostR l ∧ CellsOK W (allOf W) noNames [rowsD l] cs:=by
 obtain ⟨l,hq,hlen,q⟩:=slice_fz Try.underlying22 cells_LVS (by decide) rowD (fun r=>r.length ≤ big) h (fun n' _ cs' x' h'=>by
  obtain ⟨m,hl,hm⟩:=trod_row h'
  exact ⟨m,rfl,hm,hl⟩)
 exact ⟨l,⟨hlen,hq⟩,q⟩
def IsTa (w : World) (v : Value) (t : Ta) : Prop:=mostR t.rows ∧ Fz w (allOf w) noNames (taD t) v
set_option maxRecDepth 100000 in
theorem open_pT (hv : Value.okWide Try.prog W r b0 24 v) (h : DataW.Trod enc Try.prog W base (fun _=>true) held 24 v d p) (_lt : ∀ x ∈ p,x.block < W.heap.size) :
  ∃ t : Ta,IsTa W v t:=by
 obtain ⟨cs,rfl,_⟩:=okWide_struct Try.underlying24 hv
 obtain ⟨fuel,hf⟩:=h
 obtain ⟨y0,y1,n,_,hl,h0,h1⟩:=trod_struct2 Try.underlying24 hf
 rw [cells_LT] at hl
 have e1 : (Try.prog.cellsOf 22) = 1:=by kernel_rfl
 generalize hcc : (Value.agg cs).cells.toList = cc at hl h0 h1
 match cc,hl with
 | [c0,c1],_=>
  simp only [cells_int,e1,List.drop_zero,List.drop_succ_cons,List.take_succ_cons,List.take_zero] at h0 h1
  obtain ⟨k,q0⟩:=int_fz Try.underlying3 h0
  obtain ⟨rs,hm,q1⟩:=trod_rows h1
  refine ⟨⟨k,rs⟩,hm,agg_fz ?_⟩
  have hcs : cs.toList = [c0,c1]:=hcc
  rw [hcs]
  exact q0.append q1
end
end Go.Proofs.Ytedmegmhjmabcaa
set_option maxHeartbeats 4000000
set_option maxRecDepth 100000
set_option linter.unusedVariables false
set_option linter.unusedSimpArgs false
namespace Go.Proofs.Ytedmegmhjmabcaa
open Go.RowKit
def keyV (v : V) : Int:=if v.b = true then -10000 else v.n
theorem cmpV_key {a b : V} (ha : a.ok) (hb : b.ok) : (cmpV a b = 0 ∧ keyV a = keyV b) ∨ (cmpV a b = -1 ∧ keyV a < keyV b) ∨ (cmpV a b = 1 ∧ keyV b < keyV a):=by
 have h1:=ha.nul
 have h2:=hb.nul
 have h3:=ha.lo
 have h4:=hb.lo
 unfold cmpV keyV
 cases hab : a.b <;> cases hbb : b.b <;> simp [hab,hbb] at h1 h2 ⊢
 all_goals (repeat' split) <;> omega
theorem cmpR_trans : ∀ (a b c : List V),a.length = b.length → b.length = c.length → (∀ v,v ∈ a → v.ok) → (∀ v,v ∈ b → v.ok) → (∀ v,v ∈ c → v.ok) → cmpR a b ≤ 0 → (cmpR b c ≤ 0 → cmpR a c ≤ 0) ∧ (cmpR b c < 0 → cmpR a c < 0)
 | [],[],[],_,_,_,_,_,_=>⟨fun h=>h,fun h=>h⟩
 | [],[],_ :: _,_,h,_,_,_,_=>by simp at h
 | [],_ :: _,_,h,_,_,_,_,_=>by simp at h
 | _ :: _,[],_,h,_,_,_,_,_=>by simp at h
 | _ :: _,_ :: _,[],_,h,_,_,_,_=>by simp at h
 | x :: a,y :: b,z :: c,h,h',ha,hb,hc,hab=>by
  have hx:=ha x (List.mem_cons_self ..)
  have hy:=hb y (List.mem_cons_self ..)
  have hz:=hc z (List.mem_cons_self ..)
  have ih:=cmpR_trans a b c (by simpa using h) (by simpa using h') (fun v hv=>ha v (List.mem_cons_of_mem _ hv)) (fun v hv=>hb v (List.mem_cons_of_mem _ hv)) (fun v hv=>hc v (List.mem_cons_of_mem _ hv))
  have k1:=cmpV_key hx hy
  have k2:=cmpV_key hy hz
  have k3:=cmpV_key hx hz
  rw [cmpR] at hab
  rw [cmpR,cmpR]
  by_cases e1 : cmpV x y = 0
  ·rw [if_pos e1] at hab
   have ih:=ih hab
   by_cases e2 : cmpV y z = 0
   ·rw [if_pos e2,if_pos (show cmpV x z = 0 by omega)]
    exact ih
   ·rw [if_neg e2,if_neg (show ¬ cmpV x z = 0 by omega)]
    constructor <;> intro h <;> omega
  ·rw [if_neg e1] at hab
   by_cases e2 : cmpV y z = 0
   ·rw [if_pos e2,if_neg (show ¬ cmpV x z = 0 by omega)]
    constructor <;> intro h <;> omega
   ·rw [if_neg e2]
    by_cases e3 : cmpV x z = 0
    ·rw [if_pos e3]
     constructor <;> intro h <;> omega
    ·rw [if_neg e3]
     constructor <;> intro h <;> omega
theorem cmpV_self (a : V) : cmpV a a = 0:=cmpV_0 ⟨rfl,rfl⟩
theorem cmpR_self : ∀ a : List V,cmpR a a = 0
 | []=>rfl
 | x :: a=>by rw [cmpR,if_pos (cmpV_self x)]; exact cmpR_self a
theorem cmpV_eq {a b : V} (h : cmpV a b = 0) : a = b:=by
 unfold cmpV at h
 split at h
 ·rename_i h1
  cases a; cases b
  simp at h1
  obtain ⟨rfl,rfl⟩:=h1
  rfl
 ·split at h <;> omega
theorem cmpR_eq : ∀ {a b : List V},cmpR a b = 0 → a = b
 | [],[],_=>rfl
 | [],_ :: l,h=>by change ((0 : Nat) : Int) - ((l.length + 1 : Nat) : Int) = 0 at h; omega
 | _ :: l,[],h=>by change ((l.length + 1 : Nat) : Int) - ((0 : Nat) : Int) = 0 at h; omega
 | x :: a,y :: b,h=>by
  rw [cmpR] at h
  by_cases e : cmpV x y = 0
  ·rw [if_pos e] at h
   rw [cmpV_eq e,cmpR_eq h]
  ·rw [if_neg e] at h
   exact (e h).elim
def stepB (p : Nat → Bool) (s : Nat × Nat) : Nat × Nat:=if s.1 < s.2 then (if p ((s.1 + s.2) / 2) then (s.1,(s.1 + s.2) / 2) else ((s.1 + s.2) / 2 + 1,s.2)) else s
def itB (p : Nat → Bool) (n : Nat) : Nat → Nat × Nat
 | 0=>(0,n)
 | i + 1=>stepB p (itB p n i)
theorem itB_end {p : Nat → Bool} {n i : Nat} (h : ¬ (itB p n i).1 < (itB p n i).2) : ∀ d,itB p n (i + d) = itB p n i
 | 0=>rfl
 | d + 1=>by
  rw [← Nat.add_assoc,itB,itB_end h d]
  unfold stepB
  rw [if_neg h]
theorem itB_inv {p : Nat → Bool} {n : Nat} (hp : ∀ i j,i ≤ j → j < n → p i = true → p j = true) : ∀ i,((itB p n i).1 ≤ (itB p n i).2 ∧ (itB p n i).2 ≤ n ∧ (itB p n i).2 - (itB p n i).1 + i ≤ max n i) ∧ (∀ j,j < (itB p n i).1 → p j = false) ∧ (∀ j,(itB p n i).2 ≤ j → j < n → p j = true)
 | 0=>⟨⟨Nat.zero_le _,Nat.le_refl _,by show n - 0 + 0 ≤ max n 0; omega⟩,fun j hj=>absurd hj (Nat.not_lt_zero j),fun j (h1 : n ≤ j) h2=>by omega⟩
 | i + 1=>by
  obtain ⟨⟨h1,h2,h3⟩,h4,h5⟩:=itB_inv hp i
  rw [itB]
  generalize itB p n i = s at h1 h2 h3 h4 h5
  obtain ⟨lo,hi⟩:=s
  simp only at h1 h2 h3 h4 h5
  unfold stepB
  by_cases hlt : lo < hi
  ·simp only [hlt,if_true]
   cases hm : p ((lo + hi) / 2) with
   | true=>
    simp only [if_true]
    refine ⟨⟨by omega,by omega,by omega⟩,h4,fun j hj hjn=>?_⟩
    exact hp _ j hj hjn hm
   | false=>
    simp only [Bool.false_eq_true,if_false]
    refine ⟨⟨by omega,by omega,by omega⟩,fun j hj=>?_,h5⟩
    cases hj' : p j with
    | false=>rfl
    | true=>rw [hp j ((lo + hi) / 2) (by omega) (by omega) hj'] at hm; cases hm
  ·simp only [hlt,if_false]
   exact ⟨⟨h1,h2,by omega⟩,h4,h5⟩
end Go.Proofs.Ytedmegmhjmabcaa
