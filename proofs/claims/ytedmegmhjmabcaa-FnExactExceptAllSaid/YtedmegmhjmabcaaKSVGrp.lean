/-
  Runs of equal rows in sorted lists. Plain lemmas.
-/
import Derived.Test.YtedmegmhjmabcaaJSVBag
set_option linter.unusedVariables false
namespace Go.Proofs.Ytedmegmhjmabcaa
open Go.RowKit
def grp : List (List V) → List (List V × Nat)
 | []=>[]
 | r :: l=>match grp l with
  | []=>[(r,1)]
  | g :: gs=>if cmpR g.1 r = 0 then (r,g.2 + 1) :: gs else (r,1) :: g :: gs
theorem grp_cons (r : List V) (l : List (List V)) : grp (r :: l) = match grp l with
  | []=>[(r,1)]
  | g :: gs=>if cmpR g.1 r = 0 then (r,g.2 + 1) :: gs else (r,1) :: g :: gs:=rfl
theorem grp_mem : ∀ {l : List (List V)} {g : List V × Nat},g ∈ grp l → g.1 ∈ l ∧ 1 ≤ g.2
 | r :: l,g,h=>by
  rw [grp_cons] at h
  cases hg : grp l with
  | nil=>
   rw [hg] at h
   obtain rfl:=List.mem_singleton.1 h
   exact ⟨List.mem_cons_self ..,Nat.le_refl _⟩
  | cons g0 gs=>
   rw [hg] at h
   simp only at h
   have hm : ∀ x,x ∈ g0 :: gs → x.1 ∈ l ∧ 1 ≤ x.2:=fun x hx=>grp_mem (hg ▸ hx)
   split at h
   ·rcases List.mem_cons.1 h with rfl | h
    ·exact ⟨List.mem_cons_self ..,by simp⟩
    ·exact ⟨List.mem_cons_of_mem _ (hm g (List.mem_cons_of_mem _ h)).1,(hm g (List.mem_cons_of_mem _ h)).2⟩
   ·rcases List.mem_cons.1 h with rfl | h
    ·exact ⟨List.mem_cons_self ..,Nat.le_refl _⟩
    ·exact ⟨List.mem_cons_of_mem _ (hm g h).1,(hm g h).2⟩
def flatF (f : List V × Nat → Nat) (gs : List (List V × Nat)) : List (List V):=gs.flatMap fun g=>List.replicate (f g) g.1
theorem flatF_cons (f : List V × Nat → Nat) (g : List V × Nat) (gs : List (List V × Nat)) : flatF f (g :: gs) = List.replicate (f g) g.1 ++ flatF f gs:=by unfold flatF; rw [List.flatMap_cons]
theorem flatF_app (f : List V × Nat → Nat) (gs hs : List (List V × Nat)) : flatF f (gs ++ hs) = flatF f gs ++ flatF f hs:=by unfold flatF; rw [List.flatMap_append]
theorem grp_flat : ∀ l : List (List V),flatF (fun g=>g.2) (grp l) = l
 | []=>rfl
 | r :: l=>by
  have ih:=grp_flat l
  rw [grp_cons]
  cases hg : grp l with
  | nil=>rw [hg] at ih; rw [← ih]; rfl
  | cons g0 gs=>
   rw [hg,flatF_cons] at ih
   simp only
   split
   ·rename_i h
    rw [flatF_cons,← ih,← cmpR_eq h,List.replicate_succ,List.cons_append]
   ·rw [flatF_cons,flatF_cons,ih]; rfl
def ltG (g h : List V × Nat) : Prop:=cmpR g.1 h.1 < 0
theorem grp_pw {w : Nat} : ∀ {l : List (List V)},RsW w l → Asc l → (grp l).Pairwise ltG
 | [],_,_=>List.Pairwise.nil
 | r :: l,hw,ha=>by
  have ih:=grp_pw hw.tail (List.pairwise_cons.1 ha).2
  have hle : ∀ x,x ∈ l → leR r x:=(List.pairwise_cons.1 ha).1
  have hr:=hw r (List.mem_cons_self ..)
  rw [grp_cons]
  cases hg : grp l with
  | nil=>exact List.pairwise_singleton _ _
  | cons g0 gs=>
   rw [hg] at ih
   simp only
   have hm : ∀ x,x ∈ g0 :: gs → x.1 ∈ l:=fun x hx=>(grp_mem (hg ▸ hx)).1
   have h0:=hm g0 (List.mem_cons_self ..)
   split
   ·rename_i h
    have e:=cmpR_eq h
    refine List.pairwise_cons.2 ⟨fun x hx=>?_,(List.pairwise_cons.1 ih).2⟩
    have:=(List.pairwise_cons.1 ih).1 x hx
    unfold ltG at this ⊢
    rw [e] at this
    exact this
   ·rename_i h
    have hg0:=hw g0.1 (List.mem_cons_of_mem _ h0)
    have hlt : cmpR r g0.1 < 0:=by
     have h1:=hle g0.1 h0
     have h2:=cmpR_anti r g0.1 (by rw [hr.1,hg0.1]) hr.2 hg0.2
     unfold leR at h1
     omega
    refine List.pairwise_cons.2 ⟨fun x hx=>?_,ih⟩
    rcases List.mem_cons.1 hx with rfl | hx'
    ·exact hlt
    ·have h3:=(List.pairwise_cons.1 ih).1 x hx'
     have hxw:=hw x.1 (List.mem_cons_of_mem _ (hm x hx))
     exact (cmpR_trans r g0.1 x.1 (by rw [hr.1,hg0.1]) (by rw [hg0.1,hxw.1]) hr.2 hg0.2 hxw.2 (by omega)).2 h3
theorem cnt_rep (r : List V) (k : Nat) : cntE r (List.replicate k r) = k:=by
 rw [cntE_all (fun a ha=>by rw [(List.mem_replicate.1 ha).2]; exact cmpR_self r),List.length_replicate]
theorem cnt_repN {x r : List V} (h : r ≠ x) (k : Nat) : cntE x (List.replicate k r) = 0:=cntE_none (fun a ha h0=>h (by rw [← (List.mem_replicate.1 ha).2]; exact cmpR_eq h0))
theorem cnt_flat (f : List V × Nat → Nat) (x : List V) : ∀ {gs : List (List V × Nat)},gs.Pairwise ltG → (∀ g,g ∈ gs → g.1 = x → cntE x (flatF f gs) = f g) ∧ ((∀ g,g ∈ gs → g.1 ≠ x) → cntE x (flatF f gs) = 0)
 | [],_=>⟨fun g h=>(by cases h),fun _=>rfl⟩
 | g0 :: gs,hp=>by
  obtain ⟨ih1,ih2⟩:=cnt_flat f x (List.pairwise_cons.1 hp).2
  have hlt:=(List.pairwise_cons.1 hp).1
  rw [flatF_cons,cntE_app]
  constructor
  ·intro g hg hgx
   rcases List.mem_cons.1 hg with rfl | hg
   ·rw [← hgx,cnt_rep,hgx,ih2 (fun h hh e=>by
     have:=hlt h hh
     unfold ltG at this
     rw [hgx,e,cmpR_self] at this
     exact absurd this (by decide))]
    rfl
   ·have hne : ¬ g0.1 = x:=fun e=>by
     have:=hlt g hg
     unfold ltG at this
     rw [e,hgx,cmpR_self] at this
     exact absurd this (by decide)
    rw [cnt_repN hne,Nat.zero_add]
    exact ih1 g hg hgx
  ·intro h
   rw [cnt_repN (h g0 (List.mem_cons_self ..)),Nat.zero_add]
   exact ih2 (fun g hg=>h g (List.mem_cons_of_mem _ hg))
theorem flatF_sub {f : List V × Nat → Nat} : ∀ {gs : List (List V × Nat)},(∀ g,g ∈ gs → f g ≤ g.2) → (flatF f gs).Sublist (flatF (fun g=>g.2) gs)
 | [],_=>List.Sublist.refl _
 | g :: gs,h=>by
  rw [flatF_cons,flatF_cons]
  exact List.Sublist.append ((List.replicate_sublist_replicate g.1).2 (h g (List.mem_cons_self ..))) (flatF_sub (fun g hg=>h g (List.mem_cons_of_mem _ hg)))
theorem flatF_len_le {f : List V × Nat → Nat} {l : List (List V)} (h : ∀ g,g ∈ grp l → f g ≤ g.2) : (flatF f (grp l)).length ≤ l.length:=by
 have:=(flatF_sub h).length_le
 rwa [grp_flat] at this
def restG (l : List (List V)) (i : Nat) : List (List V):=flatF (fun g=>g.2) ((grp l).drop i)
theorem restG_0 (l : List (List V)) : restG l 0 = l:=by unfold restG; rw [List.drop_zero,grp_flat]
theorem restG_next {l : List (List V)} {i : Nat} {g : List V × Nat} (h : (grp l)[i]? = some g) : restG l i = List.replicate g.2 g.1 ++ restG l (i + 1):=by
 unfold restG
 obtain ⟨hh,rfl⟩:=List.getElem?_eq_some_iff.1 h
 rw [List.drop_eq_getElem_cons hh,flatF_cons]
theorem restG_end {l : List (List V)} {i : Nat} (h : (grp l).length ≤ i) : restG l i = []:=by unfold restG; rw [List.drop_of_length_le h]; rfl
theorem restG_sub (l : List (List V)) (i : Nat) : (restG l i).Sublist l:=by
 have h : (restG l i).Sublist (flatF (fun g=>g.2) (grp l)):=by
  unfold restG
  conv=>rhs; rw [← List.take_append_drop i (grp l),flatF_app]
  exact List.sublist_append_right ..
 rwa [grp_flat] at h
theorem take_run {w : Nat} {l : List (List V)} (hw : RsW w l) (ha : Asc l) {i : Nat} {g : List V × Nat} (h : (grp l)[i]? = some g) {a b : Nat} (hab : a + b ≤ (restG l i).length) (a1 : ∀ (j : Nat) (x : List V),j < a → (restG l i)[j]? = some x → cmpR x g.1 < 0)
  (b1 : ∀ (j : Nat) (x : List V),j < b → (restG l i)[a + j]? = some x → ¬ 0 < cmpR x g.1) (b2 : ∀ (j : Nat) (x : List V),b ≤ j → (restG l i)[a + j]? = some x → 0 < cmpR x g.1) : ((restG l i).drop a).take b = List.replicate g.2 g.1 ∧ ((restG l i).drop a).drop b = restG l (i + 1):=by
 obtain ⟨hg1,hg2⟩:=grp_mem (List.mem_of_getElem? h)
 have hn:=restG_next h
 have h0 : ∀ j,j < g.2 → (restG l i)[j]? = some g.1:=fun j hj=>by
  rw [hn,List.getElem?_append_left (by rw [List.length_replicate]; exact hj),List.getElem?_replicate,if_pos hj]
 obtain rfl : a = 0:=by
  cases a with
  | zero=>rfl
  | succ a=>
   have:=a1 0 g.1 (by omega) (h0 0 (by omega))
   rw [cmpR_self] at this
   exact absurd this (by decide)
 have hbg : g.2 ≤ b:=by
  by_cases hlt : b < g.2
  ·have:=b2 b g.1 (Nat.le_refl _) (by rw [Nat.zero_add]; exact h0 b hlt)
   rw [cmpR_self] at this
   exact absurd this (by decide)
  ·omega
 have hgb : b ≤ g.2:=by
  by_cases hlt : g.2 < b
  ·exfalso
   have hlen : g.2 < (restG l i).length:=by omega
   have hx:=List.getElem?_eq_getElem hlen
   generalize (restG l i)[g.2] = x at hx
   have h1:=b1 g.2 x hlt (by rw [Nat.zero_add]; exact hx)
   rw [hn,List.getElem?_append_right (by rw [List.length_replicate]; exact Nat.le_refl _),List.length_replicate,Nat.sub_self] at hx
   cases hi : (grp l)[i + 1]? with
   | none=>
    rw [restG_end (List.getElem?_eq_none_iff.1 hi)] at hx
    cases hx
   | some g'=>
    obtain ⟨hg1',hg2'⟩:=grp_mem (List.mem_of_getElem? hi)
    rw [restG_next hi,List.getElem?_append_left (by rw [List.length_replicate]; omega),List.getElem?_replicate,if_pos (by omega)] at hx
    obtain rfl:=Option.some.inj hx
    have hp:=List.pairwise_iff_getElem.1 (grp_pw hw ha) i (i + 1) (List.getElem?_eq_some_iff.1 h).1 (List.getElem?_eq_some_iff.1 hi).1 (by omega)
    obtain ⟨q1,q2⟩:=List.getElem?_eq_some_iff.1 h
    obtain ⟨q3,q4⟩:=List.getElem?_eq_some_iff.1 hi
    rw [q2,q4] at hp
    unfold ltG at hp
    have hgw:=hw g.1 hg1
    have hgw':=hw g'.1 hg1'
    have:=cmpR_anti g.1 g'.1 (by rw [hgw.1,hgw'.1]) hgw.2 hgw'.2
    omega
  ·omega
 have hbe : b = g.2:=by omega
 subst hbe
 rw [List.drop_zero,hn]
 exact ⟨by rw [List.take_append_of_le_length (by rw [List.length_replicate]; exact Nat.le_refl _),List.take_of_length_le (by rw [List.length_replicate]; exact Nat.le_refl _)],by rw [List.drop_append_of_le_length (by rw [List.length_replicate]; exact Nat.le_refl _),List.drop_of_length_le (by rw [List.length_replicate]; exact Nat.le_refl _),List.nil_append]⟩
def restB (bs : List (List V)) (gs : List (List V × Nat)) : Nat → List (List V)
 | 0=>bs
 | i + 1=>(restB bs gs i).filter fun x=>decide (0 < cmpR x (gs.getD i ([],0)).1)
theorem restB_sub (bs : List (List V)) (gs : List (List V × Nat)) : ∀ i,(restB bs gs i).Sublist bs
 | 0=>List.Sublist.refl _
 | i + 1=>(List.filter_sublist).trans (restB_sub bs gs i)
theorem cntE_filter {x : List V} {l : List (List V)} {p : List V → Bool} (h : p x = true) : cntE x (l.filter p) = cntE x l:=by
 unfold cntE
 rw [List.filter_filter]
 congr 1
 apply List.filter_congr
 intro a _
 by_cases e : cmpR a x = 0
 ·rw [cmpR_eq e,h]; simp
 ·simp [e]
theorem restB_cnt {w : Nat} {l bs : List (List V)} (hw : RsW w l) (ha : Asc l) {g : List V × Nat} {n : Nat} (h : (grp l)[n]? = some g) : ∀ i,i ≤ n → cntE g.1 (restB bs (grp l) i) = cntE g.1 bs
 | 0,_=>rfl
 | i + 1,hi=>by
  rw [restB,cntE_filter,restB_cnt hw ha h i (by omega)]
  have hin : i < (grp l).length:=by have:=(List.getElem?_eq_some_iff.1 h).1; omega
  have hgi:=List.getElem?_eq_getElem hin
  rw [List.getD_eq_getElem?_getD,hgi,Option.getD_some]
  have hp:=List.pairwise_iff_getElem.1 (grp_pw hw ha) i n hin (List.getElem?_eq_some_iff.1 h).1 (by omega)
  rw [(List.getElem?_eq_some_iff.1 h).2] at hp
  have h1:=hw g.1 (grp_mem (List.mem_of_getElem? h)).1
  have h2:=hw _ (grp_mem (List.mem_of_getElem? hgi)).1
  have:=cmpR_anti (grp l)[i].1 g.1 (by rw [h1.1,h2.1]) h2.2 h1.2
  unfold ltG at hp
  exact decide_eq_true (by omega)
theorem take_filter {rs : List (List V)} {row : List V} {a b : Nat} (hab : a + b ≤ rs.length) (a1 : ∀ (j : Nat) (x : List V),j < a → rs[j]? = some x → cmpR x row < 0) (a2 : ∀ (j : Nat) (x : List V),a ≤ j → rs[j]? = some x → 0 ≤ cmpR x row)
  (b1 : ∀ (j : Nat) (x : List V),j < b → rs[a + j]? = some x → ¬ 0 < cmpR x row) (b2 : ∀ (j : Nat) (x : List V),b ≤ j → rs[a + j]? = some x → 0 < cmpR x row) :
  (rs.drop a).take b = List.replicate (cntE row rs) row ∧ (rs.drop a).drop b = rs.filter (fun x=>decide (0 < cmpR x row)):=by
 have hc : cntE row rs = b:=cntE_two (by omega) (by omega) a1 a2 b1 b2
 have m1 : ∀ x,x ∈ rs.take a → cmpR x row < 0:=fun x hx=>by
  obtain ⟨j,hj⟩:=List.mem_iff_getElem?.1 hx
  have hl:=(List.getElem?_eq_some_iff.1 hj).1
  rw [List.length_take] at hl
  rw [List.getElem?_take_of_lt (by omega)] at hj
  exact a1 j x (by omega) hj
 have m2 : ∀ x,x ∈ (rs.drop a).take b → x = row:=fun x hx=>by
  obtain ⟨j,hj⟩:=List.mem_iff_getElem?.1 hx
  have hl:=(List.getElem?_eq_some_iff.1 hj).1
  rw [List.length_take] at hl
  rw [List.getElem?_take_of_lt (by omega),List.getElem?_drop] at hj
  have h1:=b1 j x (by omega) hj
  have h2:=a2 (a + j) x (by omega) hj
  exact cmpR_eq (by omega)
 have m3 : ∀ x,x ∈ (rs.drop a).drop b → 0 < cmpR x row:=fun x hx=>by
  obtain ⟨j,hj⟩:=List.mem_iff_getElem?.1 hx
  rw [List.getElem?_drop,List.getElem?_drop] at hj
  exact b2 (b + j) x (by omega) hj
 constructor
 ·rw [hc]
  refine List.eq_replicate_iff.2 ⟨by rw [List.length_take,List.length_drop]; omega,m2⟩
 ·have e : rs = rs.take a ++ ((rs.drop a).take b ++ (rs.drop a).drop b):=by rw [List.take_append_drop,List.take_append_drop]
  conv=>rhs; rw [e]
  rw [List.filter_append,List.filter_append,List.filter_eq_nil_iff.2 (fun x hx=>by have:=m1 x hx; simp; omega),List.filter_eq_nil_iff.2 (fun x hx=>by rw [m2 x hx,cmpR_self]; simp),List.nil_append,List.nil_append,List.filter_eq_self.2 (fun x hx=>by have:=m3 x hx; simp; omega)]
theorem asc_take {w : Nat} {rs : List (List V)} (hw : RsW w rs) (ha : Asc rs) {row : List V} (hr : row.length = w) (hro : ∀ v,v ∈ row → v.ok) : ∀ (i j : Nat) (x y : List V),i ≤ j → rs[i]? = some x → rs[j]? = some y → (0 ≤ cmpR x row → 0 ≤ cmpR y row) ∧ (0 < cmpR x row → 0 < cmpR y row):=by
 intro i j x y hij hx hy
 have hle : cmpR x y ≤ 0:=by
  by_cases e : i = j
  ·subst e
   rw [hx] at hy
   cases hy
   rw [cmpR_self]
   exact Int.le_refl _
  ·exact asc_at ha (show i < j by omega) hx hy
 have gx:=hw x (List.mem_of_getElem? hx)
 have gy:=hw y (List.mem_of_getElem? hy)
 have hT:=cmpR_trans x y row (by rw [gx.1,gy.1]) (by rw [gy.1,hr]) gx.2 gy.2 hro hle
 constructor
 ·intro h
  refine Classical.byContradiction fun hn=>?_
  have:=hT.2 (by omega)
  omega
 ·intro h
  refine Classical.byContradiction fun hn=>?_
  have:=hT.1 (by omega)
  omega
def interR (la bs : List (List V)) : List (List V):=flatF (fun g=>min g.2 (cntE g.1 bs)) (grp la)
def exceptR (la bs : List (List V)) : List (List V):=flatF (fun g=>g.2 - cntE g.1 bs) (grp la)
theorem cnt_flatG {w : Nat} {la : List (List V)} (hw : RsW w la) (ha : Asc la) (k : Nat → List V → Nat) (x : List V) (h0 : k 0 x = 0) : cntE x (flatF (fun g=>k g.2 g.1) (grp la)) = k (cntE x la) x:=by
 obtain ⟨h1,h2⟩:=cnt_flat (fun g=>k g.2 g.1) x (grp_pw hw ha)
 obtain ⟨h3,h4⟩:=cnt_flat (fun g=>g.2) x (grp_pw hw ha)
 rw [grp_flat] at h3 h4
 by_cases h : ∃ g,g ∈ grp la ∧ g.1 = x
 ·obtain ⟨g,hg,hgx⟩:=h
  rw [h1 g hg hgx,h3 g hg hgx,hgx]
 ·have hn : ∀ g,g ∈ grp la → g.1 ≠ x:=fun g hg e=>h ⟨g,hg,e⟩
  rw [h2 hn,h4 hn,h0]
theorem inter_cnt {w : Nat} {la bs : List (List V)} (hw : RsW w la) (ha : Asc la) (x : List V) : cntE x (interR la bs) = min (cntE x la) (cntE x bs):=cnt_flatG hw ha (fun n r=>min n (cntE r bs)) x (Nat.zero_min _)
theorem except_cnt {w : Nat} {la bs : List (List V)} (hw : RsW w la) (ha : Asc la) (x : List V) : cntE x (exceptR la bs) = cntE x la - cntE x bs:=cnt_flatG hw ha (fun n r=>n - cntE r bs) x (Nat.zero_sub _)
theorem inter_sub (la bs : List (List V)) : (interR la bs).Sublist la:=by
 have:=flatF_sub (f:=fun g=>min g.2 (cntE g.1 bs)) (gs:=grp la) (fun g _=>Nat.min_le_left _ _)
 rwa [grp_flat] at this
theorem except_sub (la bs : List (List V)) : (exceptR la bs).Sublist la:=by
 have:=flatF_sub (f:=fun g=>g.2 - cntE g.1 bs) (gs:=grp la) (fun g _=>Nat.sub_le _ _)
 rwa [grp_flat] at this
def bagC (c : Bool) (n nth seen : Nat) : Prop:=(c = true ∧ nth < n) ∨ (c = false ∧ n ≤ seen)
instance bagDec (c : Bool) (n nth seen : Nat) : Decidable (bagC c n nth seen):=inferInstanceAs (Decidable (_ ∨ _))
def bagN (c : Bool) (la lb : List (List V)) : Nat → List (List V)
 | 0=>[]
 | i + 1=>if bagC c (cntE (la.getD i []) lb) (cntE (la.getD i []) (bagN c la lb i)) (cntE (la.getD i []) (la.take i)) then bagN c la lb i ++ [la.getD i []] else bagN c la lb i
theorem bagN_next {c : Bool} {la lb : List (List V)} {i : Nat} {r : List V} (h : la[i]? = some r) : bagN c la lb (i + 1) = if bagC c (cntE r lb) (cntE r (bagN c la lb i)) (cntE r (la.take i)) then bagN c la lb i ++ [r] else bagN c la lb i:=by
 have e : la.getD i [] = r:=by rw [List.getD_eq_getElem?_getD,h]; rfl
 rw [bagN,e]
theorem cntE_one (r : List V) : cntE r [r] = 1:=by rw [cntE_same]; rfl
theorem cntE_oneN {x r : List V} (h : r ≠ x) : cntE x [r] = 0:=by rw [cntE_ne h]; rfl
theorem bagN_len (c : Bool) (la lb : List (List V)) : ∀ i,(bagN c la lb i).length ≤ i
 | 0=>Nat.le_refl _
 | i + 1=>by
  have:=bagN_len c la lb i
  rw [bagN]
  split
  ·rw [List.length_append]; simp; omega
  ·omega
theorem bagN_mem {c : Bool} {la lb : List (List V)} : ∀ {i : Nat},i ≤ la.length → ∀ x,x ∈ bagN c la lb i → x ∈ la
 | 0,_,x,hx=>by cases hx
 | i + 1,hi,x,hx=>by
  have hr:=List.getElem?_eq_getElem (l:=la) (i:=i) (by omega)
  rw [bagN_next hr] at hx
  split at hx
  ·rcases List.mem_append.1 hx with hx | hx
   ·exact bagN_mem (by omega) x hx
   ·rw [List.mem_singleton.1 hx]; exact List.getElem_mem _
  ·exact bagN_mem (by omega) x hx
theorem bag_cnt (la lb : List (List V)) (x : List V) : ∀ i,i ≤ la.length → cntE x (bagN true la lb i) = min (cntE x (la.take i)) (cntE x lb) ∧ cntE x (bagN false la lb i) = cntE x (la.take i) - cntE x lb
 | 0,_=>⟨(Nat.zero_min _).symm,(Nat.zero_sub _).symm⟩
 | i + 1,hi=>by
  obtain ⟨ih1,ih2⟩:=bag_cnt la lb x i (by omega)
  have hr:=List.getElem?_eq_getElem (l:=la) (i:=i) (by omega)
  generalize la[i]'(by omega) = r at hr
  rw [bagN_next hr,bagN_next hr,take_next hr,cntE_app]
  by_cases e : r = x
  ·subst e
   rw [cntE_one]
   constructor
   ·by_cases h : bagC true (cntE r lb) (cntE r (bagN true la lb i)) (cntE r (la.take i))
    ·rw [if_pos h,cntE_app,cntE_one]
     rcases h with ⟨_,h⟩ | ⟨h,_⟩
     ·omega
     ·cases h
    ·rw [if_neg h]
     have : ¬ cntE r (bagN true la lb i) < cntE r lb:=fun hh=>h (.inl ⟨rfl,hh⟩)
     omega
   ·by_cases h : bagC false (cntE r lb) (cntE r (bagN false la lb i)) (cntE r (la.take i))
    ·rw [if_pos h,cntE_app,cntE_one]
     rcases h with ⟨h,_⟩ | ⟨_,h⟩
     ·cases h
     ·omega
    ·rw [if_neg h]
     have : ¬ cntE r lb ≤ cntE r (la.take i):=fun hh=>h (.inr ⟨rfl,hh⟩)
     omega
  ·rw [cntE_oneN e,Nat.add_zero]
   constructor
   ·split
    ·rw [cntE_app,cntE_oneN e,Nat.add_zero]; exact ih1
    ·exact ih1
   ·split
    ·rw [cntE_app,cntE_oneN e,Nat.add_zero]; exact ih2
    ·exact ih2
theorem cnt_srt (x : List V) (l : List (List V)) : cntE x (srt l) = cntE x l:=cntE_perm (srt_perm l)
theorem bag_srt {w : Nat} {la lb : List (List V)} (hw : RsW w la) (ha : Asc la) : srt (bagN true la lb la.length) = interR la lb ∧ srt (bagN false la lb la.length) = exceptR la lb:=by
 have hb : ∀ c,RsW w (bagN c la lb la.length):=fun c r hr=>hw r (bagN_mem (Nat.le_refl _) r hr)
 have h1:=fun x=>bag_cnt la lb x la.length (Nat.le_refl _)
 rw [List.take_length] at h1
 exact ⟨asc_unique (rsw_sub (inter_sub la lb) hw) (srt_asc (hb true)) (asc_sub (inter_sub la lb) ha) (fun x=>by rw [cnt_srt,(h1 x).1,inter_cnt hw ha]),
  asc_unique (rsw_sub (except_sub la lb) hw) (srt_asc (hb false)) (asc_sub (except_sub la lb) ha) (fun x=>by rw [cnt_srt,(h1 x).2,except_cnt hw ha])⟩
end Go.Proofs.Ytedmegmhjmabcaa
