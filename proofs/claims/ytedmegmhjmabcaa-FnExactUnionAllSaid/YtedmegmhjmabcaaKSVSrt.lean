/-
  Sorted rows. Plain lemmas.
-/
import Derived.Test.YtedmegmhjmabcaaKSVCmpR
set_option linter.unusedVariables false
namespace Go.Proofs.Ytedmegmhjmabcaa
open Go.RowKit
def RsW (w : Nat) (rs : List (List V)) : Prop:=∀ r,r ∈ rs → r.length = w ∧ ∀ v,v ∈ r → v.ok
def leR (a b : List V) : Prop:=cmpR a b ≤ 0
def Asc (l : List (List V)) : Prop:=l.Pairwise leR
def ins (r : List V) : List (List V) → List (List V)
 | []=>[r]
 | x :: l=>if cmpR x r ≤ 0 then x :: ins r l else r :: x :: l
def srt (rs : List (List V)) : List (List V):=rs.foldl (fun acc r=>ins r acc) []
theorem srt_next {rs : List (List V)} {i : Nat} {r : List V} (h : rs[i]? = some r) : srt (rs.take (i + 1)) = ins r (srt (rs.take i)):=by
 unfold srt
 rw [take_next h,List.foldl_append]
 rfl
theorem ins_perm (r : List V) : ∀ l,(ins r l).Perm (r :: l)
 | []=>List.Perm.refl _
 | x :: l=>by
  rw [ins]
  split
  ·exact ((ins_perm r l).cons x).trans (List.Perm.swap r x l)
  ·exact List.Perm.refl _
theorem fold_perm : ∀ (rs acc : List (List V)),(rs.foldl (fun acc r=>ins r acc) acc).Perm (acc ++ rs)
 | [],acc=>by rw [List.append_nil]; exact List.Perm.refl _
 | r :: rs,acc=>by
  rw [List.foldl_cons]
  refine (fold_perm rs (ins r acc)).trans ?_
  exact ((ins_perm r acc).append_right rs).trans List.perm_middle.symm
theorem srt_perm (rs : List (List V)) : (srt rs).Perm rs:=fold_perm rs []
theorem srt_len (rs : List (List V)) : (srt rs).length = rs.length:=(srt_perm rs).length_eq
theorem RsW.perm {w : Nat} {a b : List (List V)} (h : RsW w a) (hp : b.Perm a) : RsW w b:=fun r hr=>h r (hp.mem_iff.1 hr)
theorem RsW.tail {w : Nat} {r : List V} {l : List (List V)} (h : RsW w (r :: l)) : RsW w l:=fun x hx=>h x (List.mem_cons_of_mem _ hx)
theorem RsW.take {w : Nat} {l : List (List V)} (h : RsW w l) (i : Nat) : RsW w (l.take i):=fun x hx=>h x (List.mem_of_mem_take hx)
theorem le_trans {w : Nat} {a b c : List V} (ha : a.length = w ∧ ∀ v,v ∈ a → v.ok) (hb : b.length = w ∧ ∀ v,v ∈ b → v.ok) (hc : c.length = w ∧ ∀ v,v ∈ c → v.ok) (h1 : leR a b) (h2 : leR b c) : leR a c:=
 (cmpR_trans a b c (by omega) (by omega) ha.2 hb.2 hc.2 h1).1 h2
theorem not_le {w : Nat} {a b : List V} (ha : a.length = w ∧ ∀ v,v ∈ a → v.ok) (hb : b.length = w ∧ ∀ v,v ∈ b → v.ok) (h : ¬ leR a b) : leR b a:=by
 have:=cmpR_anti a b (by omega) ha.2 hb.2
 unfold leR at *
 omega
theorem ins_asc {w : Nat} {r : List V} : ∀ {l : List (List V)},RsW w (r :: l) → Asc l → Asc (ins r l)
 | [],_,_=>List.pairwise_singleton ..
 | x :: l,h,ha=>by
  have hr:=h r (List.mem_cons_self ..)
  have hx:=h x (by simp)
  obtain ⟨h1,h2⟩:=List.pairwise_cons.1 ha
  rw [ins]
  split
  ·rename_i hc
   refine List.pairwise_cons.2 ⟨fun y hy=>?_,ins_asc (fun z hz=>h z (by rcases List.mem_cons.1 hz with rfl | hz <;> simp [*])) h2⟩
   rcases List.mem_cons.1 ((ins_perm r l).mem_iff.1 hy) with rfl | hy
   ·exact hc
   ·exact h1 y hy
  ·rename_i hc
   have hrx:=not_le hx hr hc
   refine List.pairwise_cons.2 ⟨fun y hy=>?_,ha⟩
   rcases List.mem_cons.1 hy with rfl | hy
   ·exact hrx
   ·exact le_trans hr hx (h y (by simp [hy])) hrx (h1 y hy)
theorem fold_asc {w : Nat} : ∀ (rs acc : List (List V)),RsW w (acc ++ rs) → Asc acc → Asc (rs.foldl (fun acc r=>ins r acc) acc)
 | [],_,_,h=>h
 | r :: rs,acc,h,ha=>by
  rw [List.foldl_cons]
  refine fold_asc rs _ (h.perm ?_) (ins_asc (fun x hx=>h x (by rcases List.mem_cons.1 hx with rfl | hx <;> simp [*])) ha)
  exact ((ins_perm r acc).append_right rs).trans List.perm_middle.symm
theorem srt_asc {w : Nat} {rs : List (List V)} (h : RsW w rs) : Asc (srt rs):=fold_asc rs [] h List.Pairwise.nil
theorem srt_rsw {w : Nat} {rs : List (List V)} (h : RsW w rs) : RsW w (srt rs):=h.perm (srt_perm rs)
theorem srt_unique {w : Nat} {l l' : List (List V)} (h : RsW w l) (hp : l'.Perm l) (ha : Asc l') : l' = srt l:=by
 refine List.Perm.eq_of_pairwise (le:=leR) ?_ ha (srt_asc h) (hp.trans (srt_perm l).symm)
 intro a b hma hmb h1 h2
 have ga:=(h.perm hp) a hma
 have gb:=(srt_rsw h) b hmb
 have:=cmpR_anti a b (by omega) ga.2 gb.2
 unfold leR at h1 h2
 exact cmpR_eq (by omega)
theorem ins_at (r : List V) : ∀ (l : List (List V)) (p : Nat),p ≤ l.length → (∀ (j : Nat) (x : List V),j < p → l[j]? = some x → cmpR x r ≤ 0) → (∀ x,l[p]? = some x → ¬ cmpR x r ≤ 0) → ins r l = l.take p ++ r :: l.drop p
 | [],p,hp,_,_=>by
  obtain rfl : p = 0:=by simpa using hp
  rfl
 | x :: l,0,_,_,h2=>by
  rw [ins,if_neg (h2 x rfl)]
  rfl
 | x :: l,p + 1,hp,h1,h2=>by
  rw [ins,if_pos (h1 0 x (by omega) rfl),ins_at r l p (by simpa using hp) (fun j y hj hy=>h1 (j + 1) y (by omega) (by simpa using hy)) (fun y hy=>h2 y (by simpa using hy))]
  rfl
theorem asc_at {l : List (List V)} (h : Asc l) {i j : Nat} {a b : List V} (hij : i < j) (ha : l[i]? = some a) (hb : l[j]? = some b) : leR a b:=by
 obtain ⟨hi,rfl⟩:=List.getElem?_eq_some_iff.1 ha
 obtain ⟨hj,rfl⟩:=List.getElem?_eq_some_iff.1 hb
 exact List.pairwise_iff_getElem.1 h i j hi hj hij
end Go.Proofs.Ytedmegmhjmabcaa
