/-
  The closed facts of the program alone, each by itself; and how a row's facts are joined.
-/
import Derived.Test.YtclkehekhdfnnaaJSFactsC
import Derived.Test.YtclkehekhdfnnaaSVStep
namespace Go.Proofs.Ytclkehekhdfnnaa.Facts
open Go
theorem and2 {a b : Bool} (h : a = true) (k : b = true) : (a && b) = true:=by rw [h,k]; rfl
theorem p2 : laidOutB Try.prog = true:=by kernel_rfl
theorem p3 : mapsRowed Try.prog = true:=by kernel_rfl
theorem p7 : (Try.prog.stops == []) = true:=by kernel_rfl
theorem p9 : (Try.prog.stopKnobs == []) = true:=by kernel_rfl
theorem p22 : (true == Try.prog.plainKeys) = true:=by kernel_rfl
theorem p23b : Try.prog.stopsHeard = true:=by kernel_rfl
end Go.Proofs.Ytclkehekhdfnnaa.Facts
namespace Go.Proofs.Ytclkehekhdfnnaa
open Go.RowKit
attribute [go_sem_proc] Nat.reduceEqDiff Nat.reduceAdd Nat.reduceMul Nat.reduceSub Nat.reduceLT Nat.reduceLeDiff reduceCtorEq Int.reduceToNat
attribute [go_sem_proc ↓] reduceIte
abbrev I (n : Int) : D:=.v (.int .i64 n)
abbrev Bo (b : Bool) : D:=.v (.bool b)
theorem wrap64 {n : Int} (h0 : -9223372036854775808 ≤ n) (h1 : n ≤ 9223372036854775807) : IntKind.i64.wrap n = n:=by
 simp [IntKind.wrap,IntKind.bits,IntKind.signed]
 omega
structure Src (bs : List Nat) : Prop where
 byte : ∀ b,b ∈ bs → b < 256
 len : bs.length ≤ 2000
structure V where
 b : Bool
 n : Int
structure V.ok (v : V) : Prop where
 lo : -9999 ≤ v.n
 hi : v.n ≤ 9999
 nul : v.b = true → v.n = 0
def vD (v : V) : D:=.agg [Bo v.b,I v.n]
theorem cast1 (n : Nat) : ((n + 1 : Nat) : Int) = (n : Int) + 1:=by omega
theorem take_next {α : Type} {vs : List α} {i : Nat} {v : α} (h : vs[i]? = some v) : vs.take (i + 1) = vs.take i ++ [v]:=by rw [List.take_add_one,h]; rfl
theorem take_len {α : Type} {vs : List α} {i : Nat} (h : i ≤ vs.length) : (vs.take i).length = i:=by rw [List.length_take]; omega
theorem take_map {α β : Type} (f : α → β) {vs : List α} {i : Nat} (h : i ≤ vs.length) : ((vs.take i).map f).take i = (vs.take i).map f:=List.take_of_length_le (by rw [List.length_map,List.length_take]; omega)
theorem take_all {α β : Type} (f : α → β) (vs : List α) : (vs.map f).take vs.length = vs.map f:=List.take_of_length_le (by rw [List.length_map]; exact Nat.le_refl _)
theorem take_set {α β : Type} (f : α → β) (vs : List α) (j : Nat) (x : β) : ((vs.map f).set j x).take vs.length = (vs.map f).set j x:=List.take_of_length_le (by rw [List.length_set,List.length_map]; exact Nat.le_refl _)
inductive E where
 | mk (k c : Int) (v : V) (ks : List E)
namespace E
def k : E → Int
 | mk k _ _ _=>k
def c : E → Int
 | mk _ c _ _=>c
def v : E → V
 | mk _ _ v _=>v
def ks : E → List E
 | mk _ _ _ ks=>ks
end E
mutual
def eD : E → D
 | .mk k c v ks=>.agg [I k,I c,Bo v.b,I v.n,.sl 5 (eL ks)]
def eL : List E → List D
 | []=>[]
 | e :: l=>eD e :: eL l
end
theorem eL_map : ∀ l : List E,eL l = l.map eD
 | []=>by rw [eL]; rfl
 | e :: l=>by rw [eL,eL_map l]; rfl
theorem eD_eq (e : E) : eD e = .agg [I e.k,I e.c,Bo e.v.b,I e.v.n,.sl 5 (e.ks.map eD)]:=by
 cases e with
 | mk k c v ks=>rw [eD,eL_map]; rfl
theorem exprs_pur : ∀ es : List E,D.purL (es.map eD) = true
 | []=>rfl
 | e :: es=>by rw [List.map_cons,D.purL,exprs_pur es,eD_eq]; rfl
theorem exprs_ren (L : List Nat) (es : List E) : D.renL L (es.map eD) = es.map eD:=ren_pure.renL_pure L _ (exprs_pur es)
theorem E.k_mk (k c : Int) (v : V) (ks : List E) : (E.mk k c v ks).k = k:=rfl
theorem E.c_mk (k c : Int) (v : V) (ks : List E) : (E.mk k c v ks).c = c:=rfl
theorem E.v_mk (k c : Int) (v : V) (ks : List E) : (E.mk k c v ks).v = v:=rfl
theorem E.ks_mk (k c : Int) (v : V) (ks : List E) : (E.mk k c v ks).ks = ks:=rfl
theorem vD_ren (L : List Nat) (v : V) : (vD v).ren L = vD v:=rfl
theorem vD_pur (v : V) : (vD v).pur = true:=rfl
theorem vals_pur : ∀ vs : List V,D.purL (vs.map vD) = true
 | []=>rfl
 | v :: vs=>by rw [List.map_cons,D.purL,vals_pur vs]; rfl
theorem vals_ren (L : List Nat) (vs : List V) : D.renL L (vs.map vD) = vs.map vD:=ren_pure.renL_pure L _ (vals_pur vs)
attribute [go_sem] eD_eq exprs_pur exprs_ren E.k_mk E.c_mk E.v_mk E.ks_mk Int.add_sub_cancel take_all take_set Nat.le_refl List.length_set List.length_append vD_ren vals_ren vD_pur vals_pur cast1 vD wrap64
end Go.Proofs.Ytclkehekhdfnnaa
