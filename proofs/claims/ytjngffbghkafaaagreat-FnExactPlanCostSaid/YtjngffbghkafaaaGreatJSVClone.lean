/-
  Runs of rows with the same key in sorted lists. Plain lemmas.
-/
import Derived.Test.YtjngffbghkafaaaGreatJSVWidB
import Derived.Test.YtjngffbghkafaaaGreatJSVEqT
import Derived.Test.YtjngffbghkafaaaGreatKSDca
import Derived.Test.YtjngffbghkafaaaGreatKSDcb
import Derived.Test.YtjngffbghkafaaaGreatJSVTbI
import Derived.Test.YtjngffbghkafaaaGreatJSVGo
set_option linter.unusedVariables false
namespace Go.Proofs.YtjngffbghkafaaaGreat
open Go.RowKit
def cK (k : List V → List V) (a b : List V) : Int:=cmpR (k a) (k b)
def KeyW (k : List V → List V) (m : Nat) (Q : List V → Prop) : Prop:=∀ x,Q x → (k x).length = m ∧ ∀ v,v ∈ k x → v.ok
def AscK (k : List V → List V) (l : List (List V)) : Prop:=l.Pairwise (fun a b=>cK k a b ≤ 0)
section
variable {k : List V → List V} {m : Nat} {Q : List V → Prop}
theorem cK_self (k : List V → List V) (a : List V) : cK k a a = 0:=cmpR_self _
theorem cK_eq {a b : List V} (h : cK k a b = 0) : k a = k b:=cmpR_eq h
theorem cK_of {a b : List V} (h : k a = k b) : cK k a b = 0:=by unfold cK; rw [h]; exact cmpR_self _
theorem cK_anti (hk : KeyW k m Q) {a b : List V} (ha : Q a) (hb : Q b) : cK k b a = - cK k a b:=cmpR_anti _ _ (by rw [(hk a ha).1,(hk b hb).1]) (hk a ha).2 (hk b hb).2
theorem cK_trans (hk : KeyW k m Q) {a b c : List V} (ha : Q a) (hb : Q b) (hc : Q c) (h : cK k a b ≤ 0) : (cK k b c ≤ 0 → cK k a c ≤ 0) ∧ (cK k b c < 0 → cK k a c < 0):=
 cmpR_trans _ _ _ (by rw [(hk a ha).1,(hk b hb).1]) (by rw [(hk b hb).1,(hk c hc).1]) (hk a ha).2 (hk b hb).2 (hk c hc).2 h
def runK (k : List V → List V) : List (List V) → List (List (List V))
 | []=>[]
 | r :: l=>match runK k l with
  | []=>[[r]]
  | g :: gs=>if cK k (g.headD []) r = 0 then (r :: g) :: gs else [r] :: g :: gs
theorem runK_cons (k : List V → List V) (r : List V) (l : List (List V)) : runK k (r :: l) = match runK k l with
  | []=>[[r]]
  | g :: gs=>if cK k (g.headD []) r = 0 then (r :: g) :: gs else [r] :: g :: gs:=rfl
theorem runK_flat (k : List V → List V) : ∀ l : List (List V),(runK k l).flatten = l
 | []=>rfl
 | r :: l=>by
  have ih:=runK_flat k l
  rw [runK_cons]
  cases hg : runK k l with
  | nil=>rw [hg] at ih; rw [← ih]; rfl
  | cons g gs=>
   rw [hg,List.flatten_cons] at ih
   simp only
   split
   ·rw [List.flatten_cons,List.cons_append,ih]
   ·rw [List.flatten_cons,List.flatten_cons,ih]; rfl
theorem runK_ne : ∀ {l : List (List V)} {g : List (List V)},g ∈ runK k l → g ≠ [] ∧ ∀ x,x ∈ g → k x = k (g.headD [])
 | r :: l,g,h=>by
  rw [runK_cons] at h
  cases hg : runK k l with
  | nil=>
   rw [hg] at h
   obtain rfl:=List.mem_singleton.1 h
   exact ⟨by simp,fun x hx=>by obtain rfl:=List.mem_singleton.1 hx; rfl⟩
  | cons g0 gs=>
   rw [hg] at h
   simp only at h
   have hm : ∀ x,x ∈ g0 :: gs → x ≠ [] ∧ ∀ y,y ∈ x → k y = k (x.headD []):=fun x hx=>runK_ne (hg ▸ hx)
   split at h
   ·rename_i h0
    rcases List.mem_cons.1 h with rfl | h
    ·refine ⟨by simp,fun x hx=>?_⟩
     rcases List.mem_cons.1 hx with rfl | hx
     ·rfl
     ·exact ((hm g0 (List.mem_cons_self ..)).2 x hx).trans (cK_eq h0)
    ·exact hm g (List.mem_cons_of_mem _ h)
   ·rcases List.mem_cons.1 h with rfl | h
    ·exact ⟨by simp,fun x hx=>by obtain rfl:=List.mem_singleton.1 hx; rfl⟩
    ·exact hm g h
theorem runK_sub {l : List (List V)} {g : List (List V)} (h : g ∈ runK k l) {x : List V} (hx : x ∈ g) : x ∈ l:=by
 rw [← runK_flat k l]
 exact List.mem_flatten.2 ⟨g,h,hx⟩
def ltK (k : List V → List V) (g h : List (List V)) : Prop:=∀ x,x ∈ g → ∀ y,y ∈ h → cK k x y < 0
theorem runK_pw (hk : KeyW k m Q) : ∀ {l : List (List V)},(∀ x,x ∈ l → Q x) → AscK k l → (runK k l).Pairwise (ltK k)
 | [],_,_=>List.Pairwise.nil
 | r :: l,hq,ha=>by
  have hq2 : ∀ x,x ∈ l → Q x:=fun x hx=>hq x (List.mem_cons_of_mem _ hx)
  have ih:=runK_pw hk hq2 (List.pairwise_cons.1 ha).2
  have hle : ∀ x,x ∈ l → cK k r x ≤ 0:=(List.pairwise_cons.1 ha).1
  have hr:=hq r (List.mem_cons_self ..)
  rw [runK_cons]
  cases hg : runK k l with
  | nil=>exact List.pairwise_singleton _ _
  | cons g0 gs=>
   rw [hg] at ih
   simp only
   have hs : ∀ g,g ∈ g0 :: gs → ∀ x,x ∈ g → x ∈ l:=fun g hgm x hx=>runK_sub (k:=k) (hg ▸ hgm) hx
   have hn : ∀ g,g ∈ g0 :: gs → g ≠ [] ∧ ∀ x,x ∈ g → k x = k (g.headD []):=fun g hgm=>runK_ne (l:=l) (hg ▸ hgm)
   have hh0 : g0.headD [] ∈ g0:=by
    cases g0 with
    | nil=>exact absurd rfl (hn [] (List.mem_cons_self ..)).1
    | cons a b=>exact List.mem_cons_self ..
   split
   ·rename_i h0
    refine List.pairwise_cons.2 ⟨fun g hgm x hx y hy=>?_,(List.pairwise_cons.1 ih).2⟩
    rcases List.mem_cons.1 hx with rfl | hx
    ·have:=(List.pairwise_cons.1 ih).1 g hgm _ hh0 y hy
     unfold cK at this ⊢
     rw [← cK_eq h0]
     exact this
    ·exact (List.pairwise_cons.1 ih).1 g hgm x hx y hy
   ·rename_i h0
    have hlt0 : ∀ y,y ∈ g0 → cK k r y < 0:=fun y hy=>by
     have h1:=hle y (hs g0 (List.mem_cons_self ..) y hy)
     have h2 : cK k r y ≠ 0:=fun e=>h0 (by
      rw [cK_of]
      rw [← (hn g0 (List.mem_cons_self ..)).2 y hy,cK_eq e])
     omega
    refine List.pairwise_cons.2 ⟨fun g hgm x hx y hy=>?_,ih⟩
    obtain rfl:=List.mem_singleton.1 hx
    rcases List.mem_cons.1 hgm with rfl | hgm
    ·exact hlt0 y hy
    ·have h1:=(List.pairwise_cons.1 ih).1 g hgm _ hh0 y hy
     have h2:=hlt0 _ hh0
     exact (cK_trans hk hr (hq2 _ (hs g0 (List.mem_cons_self ..) _ hh0)) (hq2 _ (hs g (List.mem_cons_of_mem _ hgm) _ hy)) (by omega)).2 h1
def restK (k : List V → List V) (l : List (List V)) (i : Nat) : List (List V):=((runK k l).drop i).flatten
theorem restK_0 (k : List V → List V) (l : List (List V)) : restK k l 0 = l:=by unfold restK; rw [List.drop_zero,runK_flat]
theorem restK_next {l : List (List V)} {i : Nat} {g : List (List V)} (h : (runK k l)[i]? = some g) : restK k l i = g ++ restK k l (i + 1):=by
 unfold restK
 obtain ⟨hh,rfl⟩:=List.getElem?_eq_some_iff.1 h
 rw [List.drop_eq_getElem_cons hh,List.flatten_cons]
theorem restK_end {l : List (List V)} {i : Nat} (h : (runK k l).length ≤ i) : restK k l i = []:=by unfold restK; rw [List.drop_of_length_le h]; rfl
theorem restK_sub (k : List V → List V) (l : List (List V)) (i : Nat) : (restK k l i).Sublist l:=by
 have h : (restK k l i).Sublist (runK k l).flatten:=by
  unfold restK
  conv=>rhs; rw [← List.take_append_drop i (runK k l),List.flatten_append]
  exact List.sublist_append_right ..
 rwa [runK_flat] at h
theorem takeK_run (hk : KeyW k m Q) {l : List (List V)} (hq : ∀ x,x ∈ l → Q x) (ha : AscK k l) {i : Nat} {g : List (List V)} (h : (runK k l)[i]? = some g) {a b : Nat} (hab : a + b ≤ (restK k l i).length)
  (a1 : ∀ (j : Nat) (x : List V),j < a → (restK k l i)[j]? = some x → cK k x (g.headD []) < 0)
  (b1 : ∀ (j : Nat) (x : List V),j < b → (restK k l i)[a + j]? = some x → ¬ 0 < cK k x (g.headD [])) (b2 : ∀ (j : Nat) (x : List V),b ≤ j → (restK k l i)[a + j]? = some x → 0 < cK k x (g.headD [])) :
  ((restK k l i).drop a).take b = g ∧ ((restK k l i).drop a).drop b = restK k l (i + 1):=by
 have hgm:=List.mem_of_getElem? h
 obtain ⟨hg1,hg2⟩:=runK_ne hgm
 have hn:=restK_next h
 have hpos : 0 < g.length:=List.length_pos_iff.2 hg1
 have hin : ∀ (j : Nat) (x : List V),g[j]? = some x → cK k x (g.headD []) = 0:=fun j x hx=>cK_of (hg2 x (List.mem_of_getElem? hx))
 have hgt : ∀ x,x ∈ restK k l (i + 1) → 0 < cK k x (g.headD []):=fun x hx=>by
  unfold restK at hx
  obtain ⟨g',hg',hx⟩:=List.mem_flatten.1 hx
  obtain ⟨hh,rfl⟩:=List.getElem?_eq_some_iff.1 h
  have hpw:=runK_pw hk hq ha
  have hd:=hpw.sublist (List.drop_sublist i (runK k l))
  rw [List.drop_eq_getElem_cons hh] at hd
  have hm0 : ((runK k l)[i]).headD [] ∈ (runK k l)[i]:=by
   cases hc : (runK k l)[i] with
   | nil=>exact absurd hc hg1
   | cons a b=>exact List.mem_cons_self ..
  have h1:=(List.pairwise_cons.1 hd).1 g' hg' _ hm0 x hx
  have h2:=cK_anti hk (hq _ (runK_sub hgm hm0)) (hq x (runK_sub (List.mem_of_mem_drop hg') hx))
  omega
 have ha0 : a = 0:=by
  cases a with
  | zero=>rfl
  | succ a=>
   have h0 : (restK k l i)[0]? = some (g.headD []):=by
    rw [hn,List.getElem?_append_left hpos]
    cases g with
    | nil=>exact absurd rfl hg1
    | cons x y=>rfl
   have:=a1 0 _ (Nat.succ_pos a) h0
   rw [cK_self] at this
   omega
 subst ha0
 rw [hn] at hab b1 b2 ⊢
 rw [List.length_append] at hab
 have hb : b = g.length:=by
  rcases Nat.lt_trichotomy b g.length with hlt | heq | hlt
  ·have hx:=List.getElem?_eq_getElem hlt
   have:=b2 b _ (Nat.le_refl _) (by rw [Nat.zero_add,List.getElem?_append_left hlt,hx])
   rw [hin b _ hx] at this
   omega
  ·exact heq
  ·have hlt2 : 0 < (restK k l (i + 1)).length:=by omega
   have hx:=List.getElem?_eq_getElem hlt2
   have h1:=b1 g.length _ hlt (by rw [Nat.zero_add,List.getElem?_append_right (Nat.le_refl _),Nat.sub_self,hx])
   exact absurd (hgt _ (List.mem_of_getElem? hx)) h1
 subst hb
 rw [List.drop_zero]
 exact ⟨List.take_left' rfl,List.drop_left' rfl⟩
theorem ascK_take (hk : KeyW k m Q) {rs : List (List V)} (hq : ∀ x,x ∈ rs → Q x) (ha : AscK k rs) {row : List V} (hr : Q row) : ∀ (i j : Nat) (x y : List V),i ≤ j → rs[i]? = some x → rs[j]? = some y → (0 ≤ cK k x row → 0 ≤ cK k y row) ∧ (0 < cK k x row → 0 < cK k y row):=by
 intro i j x y hij hx hy
 have hle : cK k x y ≤ 0:=by
  by_cases e : i = j
  ·subst e
   rw [hx] at hy
   cases hy
   rw [cK_self]
   exact Int.le_refl _
  ·obtain ⟨h1,rfl⟩:=List.getElem?_eq_some_iff.1 hx
   obtain ⟨h2,rfl⟩:=List.getElem?_eq_some_iff.1 hy
   exact List.pairwise_iff_getElem.1 ha i j h1 h2 (by omega)
 have qx:=hq x (List.mem_of_getElem? hx)
 have qy:=hq y (List.mem_of_getElem? hy)
 have hT:=cK_trans hk qx qy hr hle
 constructor
 ·intro h
  refine Classical.byContradiction fun hn=>?_
  have:=hT.2 (by omega)
  omega
 ·intro h
  refine Classical.byContradiction fun hn=>?_
  have:=hT.1 (by omega)
  omega
end
end Go.Proofs.YtjngffbghkafaaaGreat
set_option maxHeartbeats 4000000
set_option maxRecDepth 100000
set_option linter.unusedVariables false
set_option linter.unusedSimpArgs false
namespace Go.Proofs.YtjngffbghkafaaaGreat
open Go.RowKit
theorem sub_zero : Sub (.tup [.agg [I 0,.nul],Bo false]) (.tup [taD ⟨0,[]⟩,Bo false]):=Sub.tup ⟨Sub.agg ⟨Sub.refl _,Sub.nul 1,trivial⟩,Sub.refl _,trivial⟩
end Go.Proofs.YtjngffbghkafaaaGreat
