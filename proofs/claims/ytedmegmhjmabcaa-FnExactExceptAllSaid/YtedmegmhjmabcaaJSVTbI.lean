/-
  Rows that come in. No condition.
-/
import Derived.Test.YtedmegmhjmabcaaJSVTbX
import Derived.Test.YtedmegmhjmabcaaJSVToE
import Derived.Test.YtedmegmhjmabcaaKSDca
import Derived.Test.YtedmegmhjmabcaaKSDcb
import Derived.Test.YtedmegmhjmabcaaJSVGo
set_option maxHeartbeats 4000000
set_option maxRecDepth 100000
set_option linter.unusedVariables false
set_option linter.unusedSimpArgs false
namespace Go.Proofs.Ytedmegmhjmabcaa
open Go.ChangeShapes Go.WideShapes Go.ChangeAt Go.RowKit Go.Joins Go.Deep
section
variable {H : Type} {enc : TypeId × Value → H} {W : World} {base b0 : Nat} {held : Bool} {r : Reach} {v : Value} {d : DataW H} {p : List MemPlace}
def IsVss (w : World) (v : Value) (l : List (List V)) : Prop:=mostR l ∧ Fz w (allOf w) noNames (rowsD l) v
set_option maxRecDepth 100000 in
theorem open_pVss (hv : Value.okWide Try.prog W r b0 22 v) (h : DataW.Trod enc Try.prog W base (fun _=>true) held 22 v d p) (_lt : ∀ x ∈ p,x.block < W.heap.size) :
  ∃ l : List (List V),IsVss W v l:=by
 obtain ⟨a0,len0,cap0,rfl⟩:=okWide_slice Try.underlying22 hv
 obtain ⟨fuel,hf⟩:=h
 obtain ⟨l,hlen,q⟩:=trod_rows hf
 exact ⟨l,hlen,CellsOK.fz1 q⟩
end
end Go.Proofs.Ytedmegmhjmabcaa
set_option maxHeartbeats 4000000
set_option maxRecDepth 100000
set_option linter.unusedVariables false
set_option linter.unusedSimpArgs false
namespace Go.Proofs.Ytedmegmhjmabcaa
open Go.RowKit
theorem tOk_le {t : Ta} (ht : tOk t) : ∀ (d i : Nat) (q r : List V),t.rows[i]? = some q → t.rows[i + d]? = some r → cmpR q r ≤ 0:=by
 intro d
 induction d with
 | zero=>
  intro i q r hq hr
  rw [Nat.add_zero,hq] at hr
  cases hr
  rw [cmpR_self]
  exact Int.le_refl 0
 | succ d ih=>
  intro i q r hq hr
  have hlt:=(List.getElem?_eq_some_iff.1 hr).1
  have hm:=List.getElem?_eq_getElem (l:=t.rows) (i:=i + d) (by omega)
  have h1:=ih i q _ hq hm
  have h2:=(ht.2 (i + (d + 1)) r hr).2 _ (by omega) (by rw [show i + (d + 1) - 1 = i + d by omega]; exact hm)
  have g1:=ht.2 i q hq
  have g2:=ht.2 (i + d) _ hm
  have g3:=ht.2 _ r hr
  exact (cmpR_trans q _ r (by have:=g1.1.2; have:=g2.1.2; omega) (by have:=g3.1.2; have:=g2.1.2; omega) g1.1.1.2 g2.1.1.2 g3.1.1.2 h1).1 h2
def cntE (row : List V) (l : List (List V)) : Nat:=(l.filter fun r=>cmpR r row == 0).length
theorem cntE_next {row : List V} {l : List (List V)} {i : Nat} {x : List V} (h : l[i]? = some x) : cntE row (l.take (i + 1)) = cntE row (l.take i) + if cmpR x row = 0 then 1 else 0:=by
 unfold cntE
 rw [take_next h,List.filter_append,List.length_append,List.filter_cons,List.filter_nil]
 by_cases e : cmpR x row = 0
 ·rw [if_pos e,if_pos (by simpa using e)]; rfl
 ·rw [if_neg e,if_neg (by simpa using e)]; rfl
theorem cntE_len (row : List V) (l : List (List V)) : cntE row l ≤ l.length:=List.length_filter_le ..
theorem cntE_app (row : List V) (l m : List (List V)) : cntE row (l ++ m) = cntE row l + cntE row m:=by unfold cntE; rw [List.filter_append,List.length_append]
theorem cntE_none {row : List V} {l : List (List V)} (h : ∀ r,r ∈ l → ¬ cmpR r row = 0) : cntE row l = 0:=by
 unfold cntE
 rw [List.length_eq_zero_iff,List.filter_eq_nil_iff]
 intro a ha
 simpa using h a ha
theorem cntE_all {row : List V} {l : List (List V)} (h : ∀ r,r ∈ l → cmpR r row = 0) : cntE row l = l.length:=by
 unfold cntE
 rw [List.filter_eq_self.2 (fun a ha=>by simpa using h a ha)]
theorem cntE_two {row : List V} {rs : List (List V)} {a b : Nat} (ha : a ≤ rs.length) (hb : b ≤ rs.length - a) (h1 : ∀ (j : Nat) (r : List V),j < a → rs[j]? = some r → cmpR r row < 0) (h2 : ∀ (j : Nat) (r : List V),a ≤ j → rs[j]? = some r → 0 ≤ cmpR r row)
  (h3 : ∀ (j : Nat) (r : List V),j < b → rs[a + j]? = some r → ¬ 0 < cmpR r row) (h4 : ∀ (j : Nat) (r : List V),b ≤ j → rs[a + j]? = some r → 0 < cmpR r row) : cntE row rs = b:=by
 have e1:=List.take_append_drop a rs
 have e2:=List.take_append_drop b (rs.drop a)
 rw [← e1,cntE_app,← e2,cntE_app,cntE_none (l:=rs.take a),cntE_all (l:=(rs.drop a).take b),cntE_none (l:=(rs.drop a).drop b)]
 ·rw [List.length_take,List.length_drop]; omega
 ·intro r hr
  obtain ⟨j,hj⟩:=List.mem_iff_getElem?.1 hr
  rw [List.getElem?_drop,List.getElem?_drop] at hj
  have:=h4 (b + j) r (by omega) hj
  omega
 ·intro r hr
  obtain ⟨j,hj⟩:=List.mem_iff_getElem?.1 hr
  have hjl:=(List.getElem?_eq_some_iff.1 hj).1
  rw [List.length_take] at hjl
  rw [List.getElem?_take_of_lt (by omega),List.getElem?_drop] at hj
  have:=h3 j r (by omega) hj
  have:=h2 (a + j) r (by omega) hj
  omega
 ·intro r hr
  obtain ⟨j,hj⟩:=List.mem_iff_getElem?.1 hr
  have hjl:=(List.getElem?_eq_some_iff.1 hj).1
  rw [List.length_take] at hjl
  rw [List.getElem?_take_of_lt (by omega)] at hj
  have:=h1 j r (by omega) hj
  omega
end Go.Proofs.Ytedmegmhjmabcaa
set_option linter.unusedVariables false
namespace Go.Proofs.Ytedmegmhjmabcaa
open Go.RowKit
def RsW (w : Nat) (rs : List (List V)) : Prop:=∀ r,r ∈ rs → r.length = w ∧ ∀ v,v ∈ r → v.ok
def leR (a b : List V) : Prop:=cmpR a b ≤ 0
def Asc (l : List (List V)) : Prop:=l.Pairwise leR
def ins (r : List V) : List (List V) → List (List V)
 | []=>[r]
 | x :: l=>if cmpR x r ≤ 0 then x :: ins r l else r :: x :: l
def srt (rs : List (List V)) : List (List V):=rs.foldl (fun acc r=>ins r acc) []
theorem srt_next {rs : List (List V)} {i : Nat} {r : List V} (h : rs[i]? = some r) : srt (rs.take (i + 1)) = ins r (srt (rs.take i)):=by
 unfold srt
 rw [take_next h,List.foldl_append]
 rfl
theorem ins_perm (r : List V) : ∀ l,(ins r l).Perm (r :: l)
 | []=>List.Perm.refl _
 | x :: l=>by
  rw [ins]
  split
  ·exact ((ins_perm r l).cons x).trans (List.Perm.swap r x l)
  ·exact List.Perm.refl _
theorem fold_perm : ∀ (rs acc : List (List V)),(rs.foldl (fun acc r=>ins r acc) acc).Perm (acc ++ rs)
 | [],acc=>by rw [List.append_nil]; exact List.Perm.refl _
 | r :: rs,acc=>by
  rw [List.foldl_cons]
  refine (fold_perm rs (ins r acc)).trans ?_
  exact ((ins_perm r acc).append_right rs).trans List.perm_middle.symm
theorem srt_perm (rs : List (List V)) : (srt rs).Perm rs:=fold_perm rs []
theorem srt_len (rs : List (List V)) : (srt rs).length = rs.length:=(srt_perm rs).length_eq
theorem RsW.perm {w : Nat} {a b : List (List V)} (h : RsW w a) (hp : b.Perm a) : RsW w b:=fun r hr=>h r (hp.mem_iff.1 hr)
theorem RsW.tail {w : Nat} {r : List V} {l : List (List V)} (h : RsW w (r :: l)) : RsW w l:=fun x hx=>h x (List.mem_cons_of_mem _ hx)
theorem RsW.take {w : Nat} {l : List (List V)} (h : RsW w l) (i : Nat) : RsW w (l.take i):=fun x hx=>h x (List.mem_of_mem_take hx)
theorem le_trans {w : Nat} {a b c : List V} (ha : a.length = w ∧ ∀ v,v ∈ a → v.ok) (hb : b.length = w ∧ ∀ v,v ∈ b → v.ok) (hc : c.length = w ∧ ∀ v,v ∈ c → v.ok) (h1 : leR a b) (h2 : leR b c) : leR a c:=
 (cmpR_trans a b c (by omega) (by omega) ha.2 hb.2 hc.2 h1).1 h2
theorem not_le {w : Nat} {a b : List V} (ha : a.length = w ∧ ∀ v,v ∈ a → v.ok) (hb : b.length = w ∧ ∀ v,v ∈ b → v.ok) (h : ¬ leR a b) : leR b a:=by
 have:=cmpR_anti a b (by omega) ha.2 hb.2
 unfold leR at *
 omega
theorem ins_asc {w : Nat} {r : List V} : ∀ {l : List (List V)},RsW w (r :: l) → Asc l → Asc (ins r l)
 | [],_,_=>List.pairwise_singleton ..
 | x :: l,h,ha=>by
  have hr:=h r (List.mem_cons_self ..)
  have hx:=h x (by simp)
  obtain ⟨h1,h2⟩:=List.pairwise_cons.1 ha
  rw [ins]
  split
  ·rename_i hc
   refine List.pairwise_cons.2 ⟨fun y hy=>?_,ins_asc (fun z hz=>h z (by rcases List.mem_cons.1 hz with rfl | hz <;> simp [*])) h2⟩
   rcases List.mem_cons.1 ((ins_perm r l).mem_iff.1 hy) with rfl | hy
   ·exact hc
   ·exact h1 y hy
  ·rename_i hc
   have hrx:=not_le hx hr hc
   refine List.pairwise_cons.2 ⟨fun y hy=>?_,ha⟩
   rcases List.mem_cons.1 hy with rfl | hy
   ·exact hrx
   ·exact le_trans hr hx (h y (by simp [hy])) hrx (h1 y hy)
theorem fold_asc {w : Nat} : ∀ (rs acc : List (List V)),RsW w (acc ++ rs) → Asc acc → Asc (rs.foldl (fun acc r=>ins r acc) acc)
 | [],_,_,h=>h
 | r :: rs,acc,h,ha=>by
  rw [List.foldl_cons]
  refine fold_asc rs _ (h.perm ?_) (ins_asc (fun x hx=>h x (by rcases List.mem_cons.1 hx with rfl | hx <;> simp [*])) ha)
  exact ((ins_perm r acc).append_right rs).trans List.perm_middle.symm
theorem srt_asc {w : Nat} {rs : List (List V)} (h : RsW w rs) : Asc (srt rs):=fold_asc rs [] h List.Pairwise.nil
theorem srt_rsw {w : Nat} {rs : List (List V)} (h : RsW w rs) : RsW w (srt rs):=h.perm (srt_perm rs)
theorem srt_unique {w : Nat} {l l' : List (List V)} (h : RsW w l) (hp : l'.Perm l) (ha : Asc l') : l' = srt l:=by
 refine List.Perm.eq_of_pairwise (le:=leR) ?_ ha (srt_asc h) (hp.trans (srt_perm l).symm)
 intro a b hma hmb h1 h2
 have ga:=(h.perm hp) a hma
 have gb:=(srt_rsw h) b hmb
 have:=cmpR_anti a b (by omega) ga.2 gb.2
 unfold leR at h1 h2
 exact cmpR_eq (by omega)
theorem srt_of_asc {w : Nat} {l : List (List V)} (h : RsW w l) (ha : Asc l) : srt l = l:=(srt_unique h (List.Perm.refl _) ha).symm
theorem ins_at (r : List V) : ∀ (l : List (List V)) (p : Nat),p ≤ l.length → (∀ (j : Nat) (x : List V),j < p → l[j]? = some x → cmpR x r ≤ 0) → (∀ x,l[p]? = some x → ¬ cmpR x r ≤ 0) → ins r l = l.take p ++ r :: l.drop p
 | [],p,hp,_,_=>by
  obtain rfl : p = 0:=by simpa using hp
  rfl
 | x :: l,0,_,_,h2=>by
  rw [ins,if_neg (h2 x rfl)]
  rfl
 | x :: l,p + 1,hp,h1,h2=>by
  rw [ins,if_pos (h1 0 x (by omega) rfl),ins_at r l p (by simpa using hp) (fun j y hj hy=>h1 (j + 1) y (by omega) (by simpa using hy)) (fun y hy=>h2 y (by simpa using hy))]
  rfl
theorem asc_at {l : List (List V)} (h : Asc l) {i j : Nat} {a b : List V} (hij : i < j) (ha : l[i]? = some a) (hb : l[j]? = some b) : leR a b:=by
 obtain ⟨hi,rfl⟩:=List.getElem?_eq_some_iff.1 ha
 obtain ⟨hj,rfl⟩:=List.getElem?_eq_some_iff.1 hb
 exact List.pairwise_iff_getElem.1 h i j hi hj hij
end Go.Proofs.Ytedmegmhjmabcaa
set_option maxHeartbeats 4000000
set_option maxRecDepth 100000
namespace Go.Proofs.Ytedmegmhjmabcaa
open Go.RowKit
def asc (rs : List (List V)) : Prop:=∀ (i : Nat) (q r : List V),0 < i → rs[i - 1]? = some q → rs[i]? = some r → cmpR q r ≤ 0
noncomputable instance ascDec (rs : List (List V)) : Decidable (asc rs):=Classical.propDecidable _
theorem isSorted_ok (t : Ta) (ht : rOk t) {f : FuncId} (hf : enters Try.prog f = true) (hc : ∀ a b : List V,a.length = b.length → a.length < 2000000 → (∀ v,v ∈ a → v.ok) → (∀ v,v ∈ b → v.ok) → Does Try.prog f [] [rowD a,rowD b] (I (cmpR a b)) []) :
  Does Try.prog 109 [] [rowsD t.rows,.fn f []] (Bo (decide (asc t.rows))) []:=by
 have h4:=ht.1.2
 refine Bg c_Z0 mixed (go1 trivial ?_)
 refine dw_for (c:=0) (l:=fun n=>[(0,rowsD t.rows),(1,.fn f []),(5,I ((t.rows.length : Int) - 1 - n))]) t.rows.length (fun n=>∀ (i : Nat) (q r : List V),t.rows.length ≤ i + n → 0 < i → t.rows[i - 1]? = some q → t.rows[i]? = some r → cmpR q r ≤ 0) 0 (fun i q r h1 h2 hq hr=>by have:=(List.getElem?_eq_some_iff.1 hr).1; omega) (Wk.list [] rfl rfl ?_) (fun n hn hJ=>?_) (Nat.zero_le _)
 ·repeat' (first|(conv in hold _=>simp (disch:=omega) only [go_sem])|exact trivial|exact Sub.refl _|omega)
  exact congrArg (fun n=>D.v (Value.int .i64 n)) (by omega)
 ·by_cases hil : n + 1 < t.rows.length
  ·obtain ⟨r,hr⟩ : ∃ r,t.rows[t.rows.length - 1 - n]? = some r:=⟨_,List.getElem?_eq_getElem (by omega)⟩
   obtain ⟨q,hq⟩ : ∃ q,t.rows[t.rows.length - 1 - n - 1]? = some q:=⟨_,List.getElem?_eq_getElem (by omega)⟩
   have hr1:=ht.2 _ r hr
   have hq1:=ht.2 _ q hq
   have hrl:=hr1.1.1
   have e1 : ((t.rows.length : Int) - 1 - (n : Int)).toNat = t.rows.length - 1 - n:=by omega
   have e2 : ((t.rows.length : Int) - 1 - (n : Int) - 1).toNat = t.rows.length - 1 - n - 1:=by omega
   have hcc:=hc r q (by have:=hr1.2; have:=hq1.2; omega) (by omega) hr1.1.2 hq1.1.2
   have hanti:=cmpR_anti q r (by have:=hr1.2; have:=hq1.2; omega) hq1.1.2 hr1.1.2
   by_cases h3 : cmpR q r ≤ 0
   ·refine go1 (cj4 @e1 @e2 @hr @hq) ?_
    refine v_fn (hf) ?_
    refine Uc trivial (hcc) (go1 trivial ?_)
    refine ⟨by omega,fun i q' r' h1 h2 hq' hr'=>?_,Wk.list [] rfl rfl ?_⟩
    ·by_cases hi : i = t.rows.length - 1 - n
     ·subst hi
      rw [hq] at hq'
      rw [hr] at hr'
      cases hq'
      cases hr'
      exact h3
     ·exact hJ i q' r' (by omega) h2 hq' hr'
    ·repeat' (first|(conv in hold _=>simp (disch:=omega) only [go_sem])|exact trivial|exact Sub.refl _|omega)
     exact congrArg (fun n=>D.v (Value.int .i64 n)) (by omega)
   ·refine go1 (cj4 @e1 @e2 @hr @hq) ?_
    refine v_fn (hf) ?_
    refine Uc trivial (hcc) (go1 trivial ?_)
    exact sub_f (fun h=>h3 (h _ q r (by omega) hq hr))
  ·refine go1 trivial ?_
   exact sub_iff ⟨fun _ i q r h2 hq hr=>hJ i q r (by omega) h2 hq hr,fun _=>rfl⟩
theorem ValidTable_impl (t : Ta) (hl : rsz t.rows ≤ 1048576) : Does Try.prog 75 [] [taD t] (Bo (decide (tOk t))) []:=by
 have h1:=validRows_ok t hl
 by_cases hr : rOk t
 ·have h2:=isSorted_ok t hr (f:=90) (by kernel_rfl) (fun a b hab hl ha hb=>compareRows_impl a b hab hl ha hb)
  rw [decide_eq_true hr] at h1
  have hiff : tOk t ↔ asc t.rows:=⟨fun h i q r h0 hq hr'=>(h.2 i r hr').2 q h0 hq,fun h=>⟨hr.1,fun i r hr'=>⟨hr.2 i r hr',fun q h0 hq=>h i q r h0 hq hr'⟩⟩⟩
  rw [show decide (tOk t) = decide (asc t.rows) from decide_eq_decide.2 hiff]
  refine Bg c_Z26 mixed (go1 trivial ?_)
  refine Uc trivial (h1) (go1 trivial ?_)
  exact Uc trivial (h2) (go0 trivial)
 ·rw [decide_eq_false hr] at h1
  rw [decide_eq_false (fun h : tOk t=>hr ⟨h.1,fun i r hr'=>(h.2 i r hr').1⟩)]
  refine Bg c_Z26 mixed (go1 trivial ?_)
  exact Uc trivial (h1) (go0 trivial)
end Go.Proofs.Ytedmegmhjmabcaa
