/-
  Short forms of guarded instructions. No condition.
-/
import Derived.Test.YtedmegmhjmabcaaJSVLib
namespace Go.Proofs.Ytedmegmhjmabcaa
open Go.RowKit

/-- An instruction with a slot, and one without, neither guarded; a call with a slot; frequent ones. -/
abbrev gi (n : Nat) (i : In) : GI := ⟨i, some n, none, false⟩
abbrev g0 (i : In) : GI := ⟨i, none, none, false⟩
abbrev gc (n f : Nat) (l : List Opd) : GI := ⟨.call n f l, some n, none, true⟩
abbrev gt (n a : Nat) : GI := ⟨.mov n (.t a), some n, none, false⟩
abbrev gk (n : Nat) (a : Int) : GI := ⟨.mov n (.k (I a)), some n, none, false⟩
abbrev gl (n a : Nat) : GI := ⟨.lod n a none, some n, none, false⟩
abbrev gs (n a s : Nat) : GI := ⟨.lod n a (some s), some n, none, false⟩
abbrev gf (n a o : Nat) : GI := ⟨.fad n a o, some n, none, false⟩
abbrev ga (n a i s : Nat) : GI := ⟨.iad n a (.t i) s, some n, none, false⟩
abbrev gn (n a : Nat) : GI := ⟨.len n (.t a), some n, none, false⟩
abbrev gb (n : Nat) (o : BinOp) (a b : Nat) : GI := ⟨.bin n o (.t a) (.t b), some n, none, false⟩
abbrev gd (n : Nat) (o : BinOp) (a : Nat) (b : Int) : GI := ⟨.bin n o (.t a) (.k (I b)), some n, none, false⟩
abbrev DC.z (r : List GI) : DC := .reg r none
end Go.Proofs.Ytedmegmhjmabcaa
set_option maxHeartbeats 4000000
set_option maxRecDepth 100000
namespace Go.Proofs.Ytedmegmhjmabcaa
open Go.RowKit
structure V.near (v : V) : Prop where
 lo : -10000 ≤ v.n
 hi : v.n ≤ 10000
end Go.Proofs.Ytedmegmhjmabcaa
set_option maxHeartbeats 4000000
set_option maxRecDepth 100000
namespace Go.Proofs.Ytedmegmhjmabcaa
open Go.RowKit
structure Ta where
 w : Int
 rows : List (List V)
def rowsD (rs : List (List V)) : D:=.sl 1 (rs.map rowD)
def taD (t : Ta) : D:=.agg [I t.w,rowsD t.rows]
theorem rows_pur : ∀ l : List (List V),D.purL (l.map rowD) = true
 | []=>rfl
 | p :: l=>by rw [List.map_cons,D.purL,rows_pur l]; rfl
theorem rows_ren (L : List Nat) (l : List (List V)) : D.renL L (l.map rowD) = l.map rowD:=ren_pure.renL_pure L _ (rows_pur l)
attribute [go_sem] rows_pur rows_ren rowsD taD
def rsz : List (List V) → Nat
 | []=>0
 | r :: l=>1 + r.length + rsz l
theorem rsz_append : ∀ (l m : List (List V)),rsz (l ++ m) = rsz l + rsz m
 | [],m=>by rw [List.nil_append,rsz,Nat.zero_add]
 | e :: l,m=>by rw [List.cons_append,rsz,rsz,rsz_append l m]; omega
theorem rsz_next {ps : List (List V)} {i : Nat} {x : List V} (h : ps[i]? = some x) : rsz (ps.take (i + 1)) = rsz (ps.take i) + (1 + x.length):=by
 rw [take_next h,rsz_append,rsz,rsz]
 omega
theorem rsz_len : ∀ l : List (List V),l.length ≤ rsz l
 | []=>Nat.le_refl _
 | e :: l=>by
  have:=rsz_len l
  rw [rsz,List.length_cons]
  omega
theorem rsz_rest (ps : List (List V)) (i : Nat) : rsz (ps.take i) + (ps.length - i) ≤ rsz ps:=by
 have h1:=rsz_append (ps.take i) (ps.drop i)
 rw [List.take_append_drop] at h1
 have h2:=rsz_len (ps.drop i)
 rw [List.length_drop] at h2
 omega
theorem rsz_low (ps : List (List V)) (i : Nat) (hi : i ≤ ps.length) : i ≤ rsz (ps.take i):=by
 have h:=rsz_len (ps.take i)
 rw [List.length_take] at h
 omega
theorem rsz_mem {p : List V} {l : List (List V)} (h : p ∈ l) : p.length + 1 ≤ rsz l:=by
 induction l with
 | nil=>cases h
 | cons x l ih=>
  rw [rsz]
  rcases List.mem_cons.1 h with rfl | h
  ·omega
  ·have:=ih h; omega
end Go.Proofs.Ytedmegmhjmabcaa
