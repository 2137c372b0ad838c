/-
  The bytes of the laws, opened.
-/
import Derived.Test.YtgpdmgaemhelgaaGreatJSFactsC
import Derived.Test.YtgpdmgaemhelgaaGreatSVStep
namespace Go.Proofs.YtgpdmgaemhelgaaGreat
open Go.ChangeShapes Go.WideShapes Go.ChangeAt Go.RowKit Go.Joins
open Go.ChangeMaps (open_string shut_string)
def IsRow (k : IntKind) (w : World) (a : Option Addr) (len cap : Nat) (zs : List Int) : Prop:=
 (a = none ∧ len = 0 ∧ cap = 0 ∧ zs = []) ∨
 ∃ x,a = some x ∧ len ≤ cap ∧ cap ≤ maxLen ∧ zs.length = cap ∧ (∀ i,i < zs.length → w.cell? (x.add i) = some (.int k (zs.getD i 0))) ∧ ∀ n ∈ zs,(Lit.int k n).wf = true
section
variable {H : Type} {enc : TypeId × Value → H} {W : World} {base b0 : Nat} {spare : Nat → Bool} {held : Bool} {r : Reach} {v : Value} {d : DataW H} {p : List MemPlace}
set_option maxRecDepth 100000 in
theorem open_code (hv : Value.okWide Tryz.prog W r b0 22 v) (h : DataW.Trod enc Tryz.prog W base (fun _=>true) held 22 v d p) :
  ∃ a len cap zs,v = .slice a len cap ∧ IsRow .u8 W a len cap zs:=by
 obtain ⟨a0,len0,cap0,rfl⟩:=okWide_slice Tryz.underlying22 hv
 obtain ⟨fuel,hf⟩:=h
 rcases open_ints Tryz.underlying22 Tryz.underlying5 (by kernel_rfl) hf with ⟨hcs,_⟩ | ⟨x,l,c,zs,hcs,_,hl,hm,hz,_,hcell,hwz⟩
 ·simp [Value.cells] at hcs
  obtain ⟨rfl,rfl,rfl⟩:=hcs
  exact ⟨_,_,_,[],rfl,.inl ⟨rfl,rfl,rfl,rfl⟩⟩
 ·simp [Value.cells] at hcs
  obtain ⟨rfl,rfl,rfl⟩:=hcs
  exact ⟨_,_,_,zs,rfl,.inr ⟨_,rfl,hl,hm,by simpa using hz,hcell,hwz⟩⟩
end
end Go.Proofs.YtgpdmgaemhelgaaGreat
namespace Go.Proofs.YtgpdmgaemhelgaaGreat.Facts
open Go
theorem and2 {a b : Bool} (h : a = true) (k : b = true) : (a && b) = true:=by rw [h,k]; rfl
theorem p2 : laidOutB Tryz.prog = true:=by kernel_rfl
theorem p3 : mapsRowed Tryz.prog = true:=by kernel_rfl
theorem p7 : (Tryz.prog.stops == []) = true:=by kernel_rfl
theorem p9 : (Tryz.prog.stopKnobs == []) = true:=by kernel_rfl
theorem p22 : (true == Tryz.prog.plainKeys) = true:=by kernel_rfl
theorem p23b : Tryz.prog.stopsHeard = true:=by kernel_rfl
end Go.Proofs.YtgpdmgaemhelgaaGreat.Facts
namespace Go.Proofs.YtgpdmgaemhelgaaGreat
open Go.RowKit
attribute [go_sem_proc] Nat.reduceEqDiff Nat.reduceAdd Nat.reduceMul Nat.reduceSub Nat.reduceLT Nat.reduceLeDiff reduceCtorEq Int.reduceToNat
attribute [go_sem_proc ↓] reduceIte
abbrev I (n : Int) : D:=.v (.int .i64 n)
abbrev Bo (b : Bool) : D:=.v (.bool b)
theorem wrap64 {n : Int} (h0 : -9223372036854775808 ≤ n) (h1 : n ≤ 9223372036854775807) : IntKind.i64.wrap n = n:=by
 simp [IntKind.wrap,IntKind.bits,IntKind.signed]
 omega
theorem xor_range {a b : Int} (ha : 0 ≤ a) (ha' : a < 1099511627776) (hb : 0 ≤ b) (hb' : b < 1099511627776) : 0 ≤ intBit .xor .i64 a b:=by
 obtain ⟨x,rfl⟩:=Int.eq_ofNat_of_zero_le ha
 obtain ⟨y,rfl⟩:=Int.eq_ofNat_of_zero_le hb
 have hx : (BitVec.ofInt 64 (x : Int) ^^^ BitVec.ofInt 64 (y : Int)).toNat < 2 ^ 40:=by
  rw [BitVec.toNat_xor]
  refine Nat.xor_lt_two_pow ?_ ?_
  ·rw [BitVec.toNat_ofInt]; omega
  ·rw [BitVec.toNat_ofInt]; omega
 show 0 ≤ IntKind.i64.wrap ((BitVec.ofInt 64 (x : Int) ^^^ BitVec.ofInt 64 (y : Int)).toNat : Int)
 rw [wrap64 (by omega) (by omega)]
 omega
def byteD (b : Nat) : D:=.v (.int .u8 b)
def bytesD (bs : List Nat) : D:=.sl 1 (bs.map byteD)
theorem bytesD_ren (L : List Nat) (bs : List Nat) : (bytesD bs).ren L = bytesD bs:=rfl
def rdD (bs : List Nat) (p : Nat) : D:=.obj [bytesD bs,I p]
structure Src (bs : List Nat) : Prop where
 byte : ∀ b,b ∈ bs → b < 256
 len : bs.length ≤ 2000
structure V where
 b : Bool
 n : Int
structure V.ok (v : V) : Prop where
 lo : -9999 ≤ v.n
 hi : v.n ≤ 9999
 nul : v.b = true → v.n = 0
def vD (v : V) : D:=.agg [Bo v.b,I v.n]
def rowD (vs : List V) : D:=.sl 2 (vs.map vD)
theorem okV {b : Bool} {n : Int} (h0 : -9999 ≤ n) (h1 : n ≤ 9999) (h2 : b = true → n = 0) : V.ok ⟨b,n⟩:=⟨h0,h1,h2⟩
theorem cast1 (n : Nat) : ((n + 1 : Nat) : Int) = (n : Int) + 1:=by omega
theorem take_next {α : Type} {vs : List α} {i : Nat} {v : α} (h : vs[i]? = some v) : vs.take (i + 1) = vs.take i ++ [v]:=by rw [List.take_add_one,h]; rfl
theorem take_len {α : Type} {vs : List α} {i : Nat} (h : i ≤ vs.length) : (vs.take i).length = i:=by rw [List.length_take]; omega
theorem take_map {α β : Type} (f : α → β) {vs : List α} {i : Nat} (h : i ≤ vs.length) : ((vs.take i).map f).take i = (vs.take i).map f:=List.take_of_length_le (by rw [List.length_map,List.length_take]; omega)
theorem take_all {α β : Type} (f : α → β) (vs : List α) : (vs.map f).take vs.length = vs.map f:=List.take_of_length_le (by rw [List.length_map]; exact Nat.le_refl _)
theorem take_set {α β : Type} (f : α → β) (vs : List α) (j : Nat) (x : β) : ((vs.map f).set j x).take vs.length = (vs.map f).set j x:=List.take_of_length_le (by rw [List.length_set,List.length_map]; exact Nat.le_refl _)
inductive E where
 | mk (k c : Int) (v : V) (ks : List E)
namespace E
def k : E → Int
 | mk k _ _ _=>k
def c : E → Int
 | mk _ c _ _=>c
def v : E → V
 | mk _ _ v _=>v
def ks : E → List E
 | mk _ _ _ ks=>ks
end E
mutual
def eD : E → D
 | .mk k c v ks=>.agg [I k,I c,Bo v.b,I v.n,.sl 5 (eL ks)]
def eL : List E → List D
 | []=>[]
 | e :: l=>eD e :: eL l
end
theorem eL_map : ∀ l : List E,eL l = l.map eD
 | []=>by rw [eL]; rfl
 | e :: l=>by rw [eL,eL_map l]; rfl
theorem eD_eq (e : E) : eD e = .agg [I e.k,I e.c,Bo e.v.b,I e.v.n,.sl 5 (e.ks.map eD)]:=by
 cases e with
 | mk k c v ks=>rw [eD,eL_map]; rfl
theorem exprs_pur : ∀ es : List E,D.purL (es.map eD) = true
 | []=>rfl
 | e :: es=>by rw [List.map_cons,D.purL,exprs_pur es,eD_eq]; rfl
theorem exprs_ren (L : List Nat) (es : List E) : D.renL L (es.map eD) = es.map eD:=ren_pure.renL_pure L _ (exprs_pur es)
theorem E.k_mk (k c : Int) (v : V) (ks : List E) : (E.mk k c v ks).k = k:=rfl
theorem E.c_mk (k c : Int) (v : V) (ks : List E) : (E.mk k c v ks).c = c:=rfl
theorem E.v_mk (k c : Int) (v : V) (ks : List E) : (E.mk k c v ks).v = v:=rfl
theorem E.ks_mk (k c : Int) (v : V) (ks : List E) : (E.mk k c v ks).ks = ks:=rfl
theorem vD_ren (L : List Nat) (v : V) : (vD v).ren L = vD v:=rfl
theorem rowD_ren (L : List Nat) (vs : List V) : (rowD vs).ren L = rowD vs:=rfl
theorem vD_pur (v : V) : (vD v).pur = true:=rfl
theorem rowD_pur (vs : List V) : (rowD vs).pur = true:=rfl
theorem vals_pur : ∀ vs : List V,D.purL (vs.map vD) = true
 | []=>rfl
 | v :: vs=>by rw [List.map_cons,D.purL,vals_pur vs]; rfl
theorem vals_ren (L : List Nat) (vs : List V) : D.renL L (vs.map vD) = vs.map vD:=ren_pure.renL_pure L _ (vals_pur vs)
theorem draws {α : Type} (S : Nat → α → Nat → Prop) (top K : Nat) (step : ∀ p,p < top → ∃ v q,S p v q ∧ p ≤ q ∧ q ≤ p + K) : ∀ (n p : Nat),p + n * K < top →
  ∃ (vs : List α) (ps : Nat → Nat),vs.length = n ∧ ps 0 = p ∧ (∀ i v,vs[i]? = some v → S (ps i) v (ps (i + 1))) ∧ p ≤ ps n ∧ ps n ≤ p + n * K
 | 0,p,_=>⟨[],fun _=>p,rfl,rfl,(fun i v h=>by simp at h),Nat.le_refl p,Nat.le_add_right p _⟩
 | n + 1,p,hp=>by
  have hn : (n + 1) * K = n * K + K:=by rw [Nat.add_mul]; omega
  obtain ⟨v,q,hs,h1,h2⟩:=step p (by omega)
  obtain ⟨vs,ps,hl,h0,hss,h3,h4⟩:=draws S top K step n q (by omega)
  refine ⟨v :: vs,fun i=>match i with
   | 0=>p
   | i + 1=>ps i,by simp [hl],rfl,fun i x hx=>?_,by show p ≤ ps n; omega,by show ps n ≤ _; omega⟩
  cases i with
  | zero=>
   obtain rfl : v = x:=by simpa using hx
   show S p v (ps 0)
   rw [h0]
   exact hs
  | succ i=>exact hss i x (by simpa using hx)
attribute [go_sem] rowD_pur eD_eq exprs_pur exprs_ren E.k_mk E.c_mk E.v_mk E.ks_mk Int.add_sub_cancel take_all take_set Nat.le_refl List.length_set List.length_append vD_ren rowD_ren vals_ren vD_pur vals_pur cast1 rdD vD rowD wrap64 bytesD_ren
end Go.Proofs.YtgpdmgaemhelgaaGreat
namespace Go.Proofs.YtgpdmgaemhelgaaGreat
open Go.RowKit
mutual
def D.fro (g : Nat) (bs : List D) : D → D
 | .any=>.any
 | .v x=>.v x
 | .sl a b=>.sl a b
 | .nul=>.nul
 | .agg cs=>.agg (D.froL g bs cs)
 | .tup cs=>.tup (D.froL g bs cs)
 | .ifc t d=>.ifc t (D.fro g bs d)
 | .bnd t name d=>.bnd t name (D.fro g bs d)
 | .mv f d=>.mv f (D.fro g bs d)
 | .fn f cs=>.fn f (D.froL g bs cs)
 | .ptr cs=>.ptr cs
 | .ref a o=>if a = g ∧ o ≤ bs.length then .ptr (bs.drop o) else .ref a o
 | .own h t n=>.own h t n
 | .owo h t o n=>.owo h t o n
 | .eref a b c d=>.eref a b c d
 | .obj cs=>.obj (D.froL g bs cs)
 | .row a b=>.row a b
 | .free=>.free
 | .gho l L e k=>.gho l L e k
def D.froL (g : Nat) (bs : List D) : List D → List D
 | []=>[]
 | d :: l=>D.fro g bs d :: D.froL g bs l
end
theorem D.froL_map (g : Nat) (bs : List D) : ∀ l : List D,D.froL g bs l = l.map (D.fro g bs)
 | []=>rfl
 | d :: l=>by rw [D.froL,D.froL_map g bs l]; rfl
theorem Fz.fro {w w' : World} {F F' : Cells} {T : Blocks} {m : Names} {g : Nat} {bs : List D} (c : Chg w F T w' F') (hrow : ∀ (m' : Names) (o : Nat) (x : Value),m' g = m g → Fz w F m' (.ref g o) x → o ≤ bs.length → Fz w' F' m' (.ptr (bs.drop o)) x)
  {m' : Names} {d : D} {x : Value} (h : Fz w F m' d x) : m' g = m g → Fz w' F' m' (d.fro g bs) x:=by
 have cs_at : ∀ {cs : List D} {i : Nat} {d : D},(D.froL g bs cs)[i]? = some d → ∃ e,cs[i]? = some e ∧ d = e.fro g bs:=by
  intro cs i d hd
  rw [D.froL_map,List.getElem?_map] at hd
  cases hc : cs[i]? with
  | none=>rw [hc] at hd; cases hd
  | some e=>rw [hc] at hd; exact ⟨e,rfl,by simpa using hd.symm⟩
 induction h with
 | any m x=>intro _; exact .any m x
 | v m x=>intro _; exact .v m x
 | sl0 m s a cap=>intro _; exact .sl0 m s a cap
 | sl m s es b off cap u hs hle hlen hu hr ih=>intro _; exact (Fz.sl m s es b off cap u hs hle hlen hu hr).still c
 | nul m a=>intro _; exact .nul m a
 | agg m cs us hl h1 hr ih=>
  intro hm
  rw [D.fro]
  exact .agg m _ us (by rw [D.froL_map,List.length_map]; exact hl) h1 (fun i d u hd hu=>by obtain ⟨e,he,rfl⟩:=cs_at hd; exact ih i e u he hu hm)
 | tup m cs us hl hr ih=>
  intro hm
  rw [D.fro]
  exact .tup m _ us (by rw [D.froL_map,List.length_map]; exact hl) (fun i d u hd hu=>by obtain ⟨e,he,rfl⟩:=cs_at hd; exact ih i e u he hu hm)
 | ifc m t d x h ih=>intro hm; rw [D.fro]; exact .ifc m t _ x (ih hm)
 | bnd m t name d x h ih=>intro hm; rw [D.fro]; exact .bnd m t name _ x (ih hm)
 | mv m f d x h ih=>intro hm; rw [D.fro]; exact .mv m f _ x (ih hm)
 | fn m f cs us hl hr ih=>
  intro hm
  rw [D.fro]
  exact .fn m f _ us (by rw [D.froL_map,List.length_map]; exact hl) (fun i d u hd hu=>by obtain ⟨e,he,rfl⟩:=cs_at hd; exact ih i e u he hu hm)
 | ptr m cs b off u hu hr ih=>intro _; exact (Fz.ptr m cs b off u hu hr).still c
 | ref m a o b hg=>
  intro hm
  rw [D.fro]
  split
  ·rename_i e
   obtain ⟨rfl,hn⟩:=e
   exact hrow m o _ hm (.ref m a o b hg) hn
  ·exact .ref m a o b hg
 | own m h t n b cap cur U hg hs hle hb hcap=>intro _; exact (Fz.own m h t n b cap cur U hg hs hle hb hcap).still c
 | own0 m h t a hg=>intro _; exact .own0 m h t a hg
 | owo m h t o n b cap cur U hg hs hle hb hcap=>intro _; exact (Fz.owo m h t o n b cap cur U hg hs hle hb hcap).still c
 | owo0 m h t o a cap p hg=>intro _; exact .owo0 m h t o a cap p hg
 | eref m g s i o b hg=>intro _; exact .eref m g s i o b hg
 | gho m l L e k x=>intro _; exact .gho m l L e k x
theorem D.fro_gho {g : Nat} {bs : List D} {d : D} {l e k : Nat} {L : List D} (h : d.fro g bs = .gho l L e k) : d = .gho l L e k:=by
 cases d with
 | ref a b=>rw [D.fro] at h; split at h <;> cases h
 | gho a b c d=>rw [D.fro] at h; exact h
 | _=>rw [D.fro] at h; cases h
section
variable {P : Program} {G : Ctx} {σ τ : Env} {a : Act} {w : World} {F : Cells} {m : Names} {tm : Array Value} {k : Nat}
theorem RelF.freezeO (h : RelF G τ tm w F m) {g : Nat} {bs : List D} (hg : nb ≤ g) (hr : τ g = .obj bs) (hp : D.purL bs = true) :
  ∃ F',RelF G (τ.set g .any) tm w F' m ∧ ∀ (d : D) (x : Value),Fz w F m d x → Fz w F' m (d.fro g bs) x:=by
 have hb:=h.blks g hg
 rw [hr] at hb
 have hbl : (τ g).isBlk = true:=by rw [hr]; rfl
 obtain ⟨b,cur,T,hmg,hcur,hc,hF⟩:=hb
 have hlen : cur.size = bs.length:=by have:=hc.len; simpa using this
 have c : Chg w F (fun k=>m g = some (some k)) w (F.with b bs.length):=by
  refine ⟨rfl,rfl,rfl,Nat.le_refl _,fun _ _ _=>rfl,fun b cur U z hb=>⟨cur,hb,rfl⟩,fun b o hf=>⟨.inl hf,rfl⟩,fun k o hf hk hn=>?_,Nat.le_refl _⟩
  rcases hf with hf | ⟨rfl,_⟩
  ·exact hf
  ·exact absurd hmg hn
 have hblt : b < w.heap.size:=(Array.getElem?_eq_some_iff.1 hcur).1
 refine ⟨F.with b bs.length,h.turn hg hbl c (fun k o hf=>?_) trivial (fun e=>by cases e),fun d x hx=>hx.fro c (fun m' o x hm' hx hn=>?_) rfl⟩
 ·rcases hf with hf | ⟨rfl,_⟩
  ·exact h.wf k o hf
  ·exact hblt
 ·cases hx with
  | ref _ _ _ b' hg'=>
   rw [hm',hmg] at hg'
   obtain rfl : b = b':=by simpa using hg'
   have hpl : CellsOK w F noNames bs cur.toList:=hc.pure hp
   have hcell : ∀ j,j < bs.length → w.cell? ⟨b,j,none⟩ = some (cur.toList.getD j undef) ∧ (cur.toList.getD j undef).oneCell' = true:=fun j hj=>by
    have e : cur.toList[j]? = some (cur.toList.getD j undef):=by
     rw [List.getD_eq_getElem?_getD,List.getElem?_eq_getElem (by simpa [hlen] using hj)]
     rfl
    refine ⟨?_,hpl.one _ (List.mem_of_getElem? e)⟩
    rw [cell_of_row w b j cur T (0,0) hcur,← Array.getElem?_toList]
    exact e
   refine .ptr m' (bs.drop o) b o (fun k=>cur.toList.getD (o + k) undef) (fun k hk=>?_) (fun k d hd=>?_)
   ·rw [List.length_drop] at hk
    obtain ⟨h1,h2⟩:=hcell (o + k) (by omega)
    exact ⟨h1,.inr ⟨rfl,by omega⟩,h2⟩
   ·rw [List.getElem?_drop] at hd
    have hlt:=(List.getElem?_eq_some_iff.1 hd).1
    refine (hpl.fz (o + k) d _ hd ?_).stable c (fun _ _ h=>h)
    rw [List.getD_eq_getElem?_getD,List.getElem?_eq_getElem (by simpa [hlen] using hlt)]
    rfl
def froU (σ : Env) (t g : Nat) (bs : List D) : Upd:=[(g,.any),(t,(σ t).fro g bs)]
theorem Rel.fro {t g : Nat} {bs : List D} (hR : Rel G τ a w) (ht : t < nb) (hg : nb ≤ g) (hr : τ g = .obj bs) (hp : D.purL bs = true) : Rel G (Env.put (froU τ t g bs) τ) a w:=by
 obtain ⟨hd,F,m,h⟩:=hR
 obtain ⟨F',h1,h2⟩:=h.freezeO hg hr hp
 exact ⟨hd,F',m,h1.recast ht (fun l L e k he=>by rw [Env.set_ne _ _ _ _ (by omega)]; exact D.fro_gho he) (h2 _ _ (h.slots t ht))⟩
def froO (σ : Env) (q g : Nat) (bs : List D) : Upd:=[(g,.any),(q,(σ q).fro g bs)]
def froB (σ : Env) (t q g : Nat) (bs : List D) : Upd:=[(g,.any),(q,(σ q).fro g bs),(t,(σ t).fro g bs)]
theorem wk_fro (t g : Nat) {bs : List D} (ht : t < nb) (hg : nb ≤ g) (hr : σ g = .obj bs) (hp : D.purL bs = true) : Wk k σ (Env.put (froU σ t g bs) σ):=fun _ _ _ _ hR=>hR.fro ht hg hr hp
end
attribute [go_sem] froU froO froB D.fro D.froL
end Go.Proofs.YtgpdmgaemhelgaaGreat
