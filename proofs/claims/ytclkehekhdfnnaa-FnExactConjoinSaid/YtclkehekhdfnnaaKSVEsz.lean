/-
  How many parts an expression has. No condition.
-/
import Derived.Test.YtclkehekhdfnnaaKSVSem
set_option maxHeartbeats 4000000
set_option maxRecDepth 100000
namespace Go.Proofs.Ytclkehekhdfnnaa
open Go.RowKit
mutual
def esz : E → Nat
 | .mk _ _ _ ks=>1 + eszL ks
def eszL : List E → Nat
 | []=>0
 | e :: l=>esz e + eszL l
end
theorem esz_eq (e : E) : esz e = 1 + eszL e.ks:=by cases e; rfl
theorem eszL_append : ∀ (l m : List E),eszL (l ++ m) = eszL l + eszL m
 | [],m=>by rw [List.nil_append,eszL,Nat.zero_add]
 | e :: l,m=>by rw [List.cons_append,eszL,eszL,eszL_append l m]; omega
theorem eszL_next {es : List E} {i : Nat} {x : E} (h : es[i]? = some x) : eszL (es.take (i + 1)) = eszL (es.take i) + esz x:=by
 rw [take_next h,eszL_append,eszL,eszL]
 omega
theorem esz_small {w : Int} : ∀ (e : E) (d : Nat),eOk e w d → d ≤ 20 → esz e + 1 ≤ 2 ^ (d + 1):=by
 refine E.ind (fun e ih d h hd=>?_)
 rw [esz_eq]
 have h2 : ∀ x,x ∈ e.ks → d ≠ 0:=fun x hx=>((eOk_iff e w d).1 h).2.1 (List.length_pos_of_mem hx)
 rcases eOk_kids h with ⟨_,h1⟩ | ⟨_,a,h1,ha⟩ | ⟨_,a,b,h1,ha,hb⟩
 ·rw [h1,eszL]
  have : 2 ^ 1 ≤ 2 ^ (d + 1):=Nat.pow_le_pow_right (by decide) (by omega)
  omega
 ·have hd0:=h2 a (by rw [h1]; exact List.mem_cons_self ..)
  have:=ih a (by rw [h1]; exact List.mem_cons_self ..) (d - 1) ha (by omega)
  rw [h1,eszL,eszL]
  rw [show d - 1 + 1 = d by omega] at this
  rw [Nat.pow_succ]
  have : 2 ^ 1 ≤ 2 ^ d:=Nat.pow_le_pow_right (by decide) (by omega)
  omega
 ·have hd0:=h2 a (by rw [h1]; exact List.mem_cons_self ..)
  have:=ih a (by rw [h1]; exact List.mem_cons_self ..) (d - 1) ha (by omega)
  have:=ih b (by rw [h1]; exact List.mem_cons_of_mem _ (List.mem_cons_self ..)) (d - 1) hb (by omega)
  rw [h1,eszL,eszL,eszL]
  rw [show d - 1 + 1 = d by omega] at *
  rw [Nat.pow_succ]
  omega
theorem eszL_len : ∀ l : List E,l.length ≤ eszL l
 | []=>Nat.le_refl _
 | e :: l=>by
  have:=eszL_len l
  rw [eszL,esz_eq,List.length_cons]
  omega
theorem eszL_mem {e : E} {l : List E} (h : e ∈ l) : esz e ≤ eszL l:=by
 induction l with
 | nil=>cases h
 | cons x l ih=>
  rw [eszL]
  rcases List.mem_cons.1 h with rfl | h
  ·omega
  ·have:=ih h; omega
theorem eszL_rest : ∀ (es : List E) (i : Nat),i ≤ es.length → eszL (es.take i) + (es.length - i) ≤ eszL es
 | es,i,hi=>by
  have h1:=eszL_append (es.take i) (es.drop i)
  rw [List.take_append_drop] at h1
  have h2:=eszL_len (es.drop i)
  rw [List.length_drop] at h2
  omega
theorem eszL_low : ∀ (es : List E) (i : Nat),i ≤ es.length → i ≤ eszL (es.take i):=fun es i hi=>by
 have h:=eszL_len (es.take i)
 rw [List.length_take] at h
 omega
end Go.Proofs.Ytclkehekhdfnnaa
