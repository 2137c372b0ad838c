/-
  Rows are ordered; a place in an ordered list, found by halving; how many are equal. Plain lemmas.
-/
import Derived.Test.YtjngffbghkafaaaGreatJSVPl
import Derived.Test.YtjngffbghkafaaaGreatKSDca
import Derived.Test.YtjngffbghkafaaaGreatKSDcb
import Derived.Test.YtjngffbghkafaaaGreatJSVGo
set_option maxHeartbeats 4000000
set_option maxRecDepth 100000
set_option linter.unusedVariables false
set_option linter.unusedSimpArgs false
namespace Go.Proofs.YtjngffbghkafaaaGreat
open Go.RowKit
theorem tOk_le {t : Ta} (ht : tOk t) : ∀ (d i : Nat) (q r : List V),t.rows[i]? = some q → t.rows[i + d]? = some r → cmpR q r ≤ 0:=by
 intro d
 induction d with
 | zero=>
  intro i q r hq hr
  rw [Nat.add_zero,hq] at hr
  cases hr
  rw [cmpR_self]
  exact Int.le_refl 0
 | succ d ih=>
  intro i q r hq hr
  have hlt:=(List.getElem?_eq_some_iff.1 hr).1
  have hm:=List.getElem?_eq_getElem (l:=t.rows) (i:=i + d) (by omega)
  have h1:=ih i q _ hq hm
  have h2:=(ht.2 (i + (d + 1)) r hr).2 _ (by omega) (by rw [show i + (d + 1) - 1 = i + d by omega]; exact hm)
  have g1:=ht.2 i q hq
  have g2:=ht.2 (i + d) _ hm
  have g3:=ht.2 _ r hr
  exact (cmpR_trans q _ r (by have:=g1.1.2; have:=g2.1.2; omega) (by have:=g3.1.2; have:=g2.1.2; omega) g1.1.1.2 g2.1.1.2 g3.1.1.2 h1).1 h2
end Go.Proofs.YtjngffbghkafaaaGreat
set_option linter.unusedVariables false
namespace Go.Proofs.YtjngffbghkafaaaGreat
open Go.RowKit
def RsW (w : Nat) (rs : List (List V)) : Prop:=∀ r,r ∈ rs → r.length = w ∧ ∀ v,v ∈ r → v.ok
def leR (a b : List V) : Prop:=cmpR a b ≤ 0
def Asc (l : List (List V)) : Prop:=l.Pairwise leR
def ins (r : List V) : List (List V) → List (List V)
 | []=>[r]
 | x :: l=>if cmpR x r ≤ 0 then x :: ins r l else r :: x :: l
def srt (rs : List (List V)) : List (List V):=rs.foldl (fun acc r=>ins r acc) []
theorem srt_next {rs : List (List V)} {i : Nat} {r : List V} (h : rs[i]? = some r) : srt (rs.take (i + 1)) = ins r (srt (rs.take i)):=by
 unfold srt
 rw [take_next h,List.foldl_append]
 rfl
theorem ins_perm (r : List V) : ∀ l,(ins r l).Perm (r :: l)
 | []=>List.Perm.refl _
 | x :: l=>by
  rw [ins]
  split
  ·exact ((ins_perm r l).cons x).trans (List.Perm.swap r x l)
  ·exact List.Perm.refl _
theorem fold_perm : ∀ (rs acc : List (List V)),(rs.foldl (fun acc r=>ins r acc) acc).Perm (acc ++ rs)
 | [],acc=>by rw [List.append_nil]; exact List.Perm.refl _
 | r :: rs,acc=>by
  rw [List.foldl_cons]
  refine (fold_perm rs (ins r acc)).trans ?_
  exact ((ins_perm r acc).append_right rs).trans List.perm_middle.symm
theorem srt_perm (rs : List (List V)) : (srt rs).Perm rs:=fold_perm rs []
theorem srt_len (rs : List (List V)) : (srt rs).length = rs.length:=(srt_perm rs).length_eq
theorem RsW.perm {w : Nat} {a b : List (List V)} (h : RsW w a) (hp : b.Perm a) : RsW w b:=fun r hr=>h r (hp.mem_iff.1 hr)
theorem RsW.tail {w : Nat} {r : List V} {l : List (List V)} (h : RsW w (r :: l)) : RsW w l:=fun x hx=>h x (List.mem_cons_of_mem _ hx)
theorem RsW.take {w : Nat} {l : List (List V)} (h : RsW w l) (i : Nat) : RsW w (l.take i):=fun x hx=>h x (List.mem_of_mem_take hx)
theorem le_trans {w : Nat} {a b c : List V} (ha : a.length = w ∧ ∀ v,v ∈ a → v.ok) (hb : b.length = w ∧ ∀ v,v ∈ b → v.ok) (hc : c.length = w ∧ ∀ v,v ∈ c → v.ok) (h1 : leR a b) (h2 : leR b c) : leR a c:=
 (cmpR_trans a b c (by omega) (by omega) ha.2 hb.2 hc.2 h1).1 h2
theorem not_le {w : Nat} {a b : List V} (ha : a.length = w ∧ ∀ v,v ∈ a → v.ok) (hb : b.length = w ∧ ∀ v,v ∈ b → v.ok) (h : ¬ leR a b) : leR b a:=by
 have:=cmpR_anti a b (by omega) ha.2 hb.2
 unfold leR at *
 omega
theorem ins_asc {w : Nat} {r : List V} : ∀ {l : List (List V)},RsW w (r :: l) → Asc l → Asc (ins r l)
 | [],_,_=>List.pairwise_singleton ..
 | x :: l,h,ha=>by
  have hr:=h r (List.mem_cons_self ..)
  have hx:=h x (by simp)
  obtain ⟨h1,h2⟩:=List.pairwise_cons.1 ha
  rw [ins]
  split
  ·rename_i hc
   refine List.pairwise_cons.2 ⟨fun y hy=>?_,ins_asc (fun z hz=>h z (by rcases List.mem_cons.1 hz with rfl | hz <;> simp [*])) h2⟩
   rcases List.mem_cons.1 ((ins_perm r l).mem_iff.1 hy) with rfl | hy
   ·exact hc
   ·exact h1 y hy
  ·rename_i hc
   have hrx:=not_le hx hr hc
   refine List.pairwise_cons.2 ⟨fun y hy=>?_,ha⟩
   rcases List.mem_cons.1 hy with rfl | hy
   ·exact hrx
   ·exact le_trans hr hx (h y (by simp [hy])) hrx (h1 y hy)
theorem fold_asc {w : Nat} : ∀ (rs acc : List (List V)),RsW w (acc ++ rs) → Asc acc → Asc (rs.foldl (fun acc r=>ins r acc) acc)
 | [],_,_,h=>h
 | r :: rs,acc,h,ha=>by
  rw [List.foldl_cons]
  refine fold_asc rs _ (h.perm ?_) (ins_asc (fun x hx=>h x (by rcases List.mem_cons.1 hx with rfl | hx <;> simp [*])) ha)
  exact ((ins_perm r acc).append_right rs).trans List.perm_middle.symm
theorem srt_asc {w : Nat} {rs : List (List V)} (h : RsW w rs) : Asc (srt rs):=fold_asc rs [] h List.Pairwise.nil
theorem srt_rsw {w : Nat} {rs : List (List V)} (h : RsW w rs) : RsW w (srt rs):=h.perm (srt_perm rs)
theorem srt_unique {w : Nat} {l l' : List (List V)} (h : RsW w l) (hp : l'.Perm l) (ha : Asc l') : l' = srt l:=by
 refine List.Perm.eq_of_pairwise (le:=leR) ?_ ha (srt_asc h) (hp.trans (srt_perm l).symm)
 intro a b hma hmb h1 h2
 have ga:=(h.perm hp) a hma
 have gb:=(srt_rsw h) b hmb
 have:=cmpR_anti a b (by omega) ga.2 gb.2
 unfold leR at h1 h2
 exact cmpR_eq (by omega)
theorem srt_of_asc {w : Nat} {l : List (List V)} (h : RsW w l) (ha : Asc l) : srt l = l:=(srt_unique h (List.Perm.refl _) ha).symm
theorem ins_at (r : List V) : ∀ (l : List (List V)) (p : Nat),p ≤ l.length → (∀ (j : Nat) (x : List V),j < p → l[j]? = some x → cmpR x r ≤ 0) → (∀ x,l[p]? = some x → ¬ cmpR x r ≤ 0) → ins r l = l.take p ++ r :: l.drop p
 | [],p,hp,_,_=>by
  obtain rfl : p = 0:=by simpa using hp
  rfl
 | x :: l,0,_,_,h2=>by
  rw [ins,if_neg (h2 x rfl)]
  rfl
 | x :: l,p + 1,hp,h1,h2=>by
  rw [ins,if_pos (h1 0 x (by omega) rfl),ins_at r l p (by simpa using hp) (fun j y hj hy=>h1 (j + 1) y (by omega) (by simpa using hy)) (fun y hy=>h2 y (by simpa using hy))]
  rfl
theorem asc_at {l : List (List V)} (h : Asc l) {i j : Nat} {a b : List V} (hij : i < j) (ha : l[i]? = some a) (hb : l[j]? = some b) : leR a b:=by
 obtain ⟨hi,rfl⟩:=List.getElem?_eq_some_iff.1 ha
 obtain ⟨hj,rfl⟩:=List.getElem?_eq_some_iff.1 hb
 exact List.pairwise_iff_getElem.1 h i j hi hj hij
end Go.Proofs.YtjngffbghkafaaaGreat
set_option maxHeartbeats 4000000
set_option maxRecDepth 100000
namespace Go.Proofs.YtjngffbghkafaaaGreat
open Go.RowKit
def asc (rs : List (List V)) : Prop:=∀ (i : Nat) (q r : List V),0 < i → rs[i - 1]? = some q → rs[i]? = some r → cmpR q r ≤ 0
noncomputable instance ascDec (rs : List (List V)) : Decidable (asc rs):=Classical.propDecidable _
theorem isSorted_ok (t : Ta) (ht : rOk t) {f : FuncId} (hf : enters Tryz.prog f = true) (hc : ∀ a b : List V,a.length = b.length → a.length < 2000000 → (∀ v,v ∈ a → v.ok) → (∀ v,v ∈ b → v.ok) → Does Tryz.prog f [] [rowD a,rowD b] (I (cmpR a b)) []) :
  Does Tryz.prog 118 [] [rowsD t.rows,.fn f []] (Bo (decide (asc t.rows))) []:=by
 have h4:=ht.1.2
 refine Bg c_Z0 mixed (go1 trivial ?_)
 refine dw_for (c:=0) (l:=fun n=>[(0,rowsD t.rows),(1,.fn f []),(5,I ((t.rows.length : Int) - 1 - n))]) t.rows.length (fun n=>∀ (i : Nat) (q r : List V),t.rows.length ≤ i + n → 0 < i → t.rows[i - 1]? = some q → t.rows[i]? = some r → cmpR q r ≤ 0) 0 (fun i q r h1 h2 hq hr=>by have:=(List.getElem?_eq_some_iff.1 hr).1; omega) (Wk.list [] rfl rfl ?_) (fun n hn hJ=>?_) (Nat.zero_le _)
 ·repeat' (first|(conv in hold _=>simp (disch:=omega) only [go_sem])|exact trivial|exact Sub.refl _|omega)
  exact congrArg (fun n=>D.v (Value.int .i64 n)) (by omega)
 ·by_cases hil : n + 1 < t.rows.length
  ·obtain ⟨r,hr⟩ : ∃ r,t.rows[t.rows.length - 1 - n]? = some r:=⟨_,List.getElem?_eq_getElem (by omega)⟩
   obtain ⟨q,hq⟩ : ∃ q,t.rows[t.rows.length - 1 - n - 1]? = some q:=⟨_,List.getElem?_eq_getElem (by omega)⟩
   have hr1:=ht.2 _ r hr
   have hq1:=ht.2 _ q hq
   have hrl:=hr1.1.1
   have e1 : ((t.rows.length : Int) - 1 - (n : Int)).toNat = t.rows.length - 1 - n:=by omega
   have e2 : ((t.rows.length : Int) - 1 - (n : Int) - 1).toNat = t.rows.length - 1 - n - 1:=by omega
   have hcc:=hc r q (by have:=hr1.2; have:=hq1.2; omega) (by omega) hr1.1.2 hq1.1.2
   have hanti:=cmpR_anti q r (by have:=hr1.2; have:=hq1.2; omega) hq1.1.2 hr1.1.2
   by_cases h3 : cmpR q r ≤ 0
   ·refine go1 (cj4 @e1 @e2 @hr @hq) ?_
    refine v_fn (hf) ?_
    refine Uc trivial (hcc) (go1 trivial ?_)
    refine ⟨by omega,fun i q' r' h1 h2 hq' hr'=>?_,Wk.list [] rfl rfl ?_⟩
    ·by_cases hi : i = t.rows.length - 1 - n
     ·subst hi
      rw [hq] at hq'
      rw [hr] at hr'
      cases hq'
      cases hr'
      exact h3
     ·exact hJ i q' r' (by omega) h2 hq' hr'
    ·repeat' (first|(conv in hold _=>simp (disch:=omega) only [go_sem])|exact trivial|exact Sub.refl _|omega)
     exact congrArg (fun n=>D.v (Value.int .i64 n)) (by omega)
   ·refine go1 (cj4 @e1 @e2 @hr @hq) ?_
    refine v_fn (hf) ?_
    refine Uc trivial (hcc) (go1 trivial ?_)
    exact sub_f (fun h=>h3 (h _ q r (by omega) hq hr))
  ·refine go1 trivial ?_
   exact sub_iff ⟨fun _ i q r h2 hq hr=>hJ i q r (by omega) h2 hq hr,fun _=>rfl⟩
theorem ValidTable_impl (t : Ta) (hl : rsz t.rows ≤ 1048576) : Does Tryz.prog 69 [] [taD t] (Bo (decide (tOk t))) []:=by
 have h1:=validRows_ok t hl
 by_cases hr : rOk t
 ·have h2:=isSorted_ok t hr (f:=96) (by kernel_rfl) (fun a b hab hl ha hb=>compareRows_impl a b hab hl ha hb)
  rw [decide_eq_true hr] at h1
  have hiff : tOk t ↔ asc t.rows:=⟨fun h i q r h0 hq hr'=>(h.2 i r hr').2 q h0 hq,fun h=>⟨hr.1,fun i r hr'=>⟨hr.2 i r hr',fun q h0 hq=>h i q r h0 hq hr'⟩⟩⟩
  rw [show decide (tOk t) = decide (asc t.rows) from decide_eq_decide.2 hiff]
  refine Bg c_Z81 mixed (go1 trivial ?_)
  refine Uc trivial (h1) (go1 trivial ?_)
  exact Uc trivial (h2) (go0 trivial)
 ·rw [decide_eq_false hr] at h1
  rw [decide_eq_false (fun h : tOk t=>hr ⟨h.1,fun i r hr'=>(h.2 i r hr').1⟩)]
  refine Bg c_Z81 mixed (go1 trivial ?_)
  exact Uc trivial (h1) (go0 trivial)
end Go.Proofs.YtjngffbghkafaaaGreat
