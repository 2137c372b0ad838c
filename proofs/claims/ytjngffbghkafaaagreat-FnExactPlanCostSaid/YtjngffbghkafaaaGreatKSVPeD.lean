/-
  Groups of the model. No condition.
-/
import Derived.Test.YtjngffbghkafaaaGreatKSDca
import Derived.Test.YtjngffbghkafaaaGreatJSDce
import Derived.Test.YtjngffbghkafaaaGreatJSVPiD
import Derived.Test.YtjngffbghkafaaaGreatJSDcWXPc
import Derived.Test.YtjngffbghkafaaaGreatJSVGo
set_option maxHeartbeats 4000000
set_option maxRecDepth 100000
set_option linter.unusedVariables false
set_option linter.unusedSimpArgs false
namespace Go.Proofs.YtjngffbghkafaaaGreat
open Go.RowKit
def pkR (cs : List Int) (r : List V) : List V:=cs.map (fun c=>r.getD c.toNat ⟨false,0⟩)
theorem pk_at {r : List V} {c : Nat} (h : c < r.length) : r[c]? = some (r.getD c ⟨false,0⟩):=by
 rw [List.getD_eq_getElem?_getD,List.getElem?_eq_getElem h]
 rfl
theorem pickCols_ok (cs : List Int) (r : List V) (hl : cs.length ≤ 1000) (hr : r.length < 100000) (h : ∀ c,c ∈ cs → 0 ≤ c ∧ c < r.length) : Does Tryz.prog 165 [] [rowD r,intsD cs] (rowD (pkR cs r)) []:=by
 have hpl : (pkR cs r).length = cs.length:=List.length_map _
 have htk : ((pkR cs r).map vD).take cs.length = (pkR cs r).map vD:=by rw [← hpl]; exact take_all vD _
 refine Bg c_Z128 mixed (go1 trivial ?_)
 refine dw_for (c:=1) (l:=fun i=>[(0,rowD r),(1,intsD cs),(5,.own 1000000 2 i),(6,I i),(1000000,.row 2 (((pkR cs r).take i).map vD))]) cs.length (fun _=>True) 0 trivial ((wk_row 5 2000090 2 (by decide) (by decide) rfl rfl).trans (Wk.list [2000090] rfl rfl ?_)) (fun i hi _=>?_) (Nat.zero_le _)
 ·repeat' (first|(conv in hold _=>simp (disch:=omega) only [go_sem])|exact trivial|exact Sub.refl _|omega)
  first | exact rfl | exact ⟨rfl,rfl⟩
 ·have htl : ((pkR cs r).take i).length = i:=take_len (by rw [hpl]; exact hi)
  have htm : (((pkR cs r).take i).map vD).take i = ((pkR cs r).take i).map vD:=take_map vD (by rw [hpl]; exact hi)
  rcases at_or_end hi with ⟨x,hx,hlt⟩ | rfl
  ·have hxr:=h x (List.mem_of_getElem? hx)
   obtain ⟨c,rfl⟩:=Int.eq_ofNat_of_zero_le hxr.1
   have hv:=pk_at (r:=r) (c:=c) (by omega)
   have hnx : (pkR cs r).take (i + 1) = (pkR cs r).take i ++ [r.getD c ⟨false,0⟩]:=take_next (by unfold pkR; rw [List.getElem?_map,hx]; rfl)
   generalize r.getD c ⟨false,0⟩ = v at hv hnx
   have hcl : (c : Int) < r.length:=hxr.2
   refine go1 (cj3 @hx @hv @htm) ?_
   refine ⟨hlt,trivial,Wk.list [2000023] rfl rfl ?_⟩
   repeat' (first|(conv in hold _=>simp (disch:=omega) only [go_sem,hnx,htm])|exact trivial|exact Sub.refl _|omega)
   rw [List.map_append]
   rfl
  ·have e1 : (pkR cs r).take cs.length = pkR cs r:=List.take_of_length_le (by rw [hpl]; exact Nat.le_refl _)
   rw [e1]
   refine go1F trivial ?_
   refine fin_wk (wk_frz 4 1000000 (by decide) (by decide) rfl ?_) ?_
   rotate_left
   (conv in hold _=>simp (disch:=omega) only [go_sem,htk,hpl,List.length_map,Nat.le_refl])
   ·refine fin_L [] ?_ ?_ rfl ?_
    repeat' (first|(conv in hold _=>simp (disch:=omega) only [go_sem])|exact trivial|exact Sub.refl _|omega)
   ·exact vals_pur _
-- groups
def isK (key a : List V) : Bool:=cmpR a key == 0
def posG (key : List V) (ks : List (List V)) : Nat:=ks.findIdx (isK key)
def stpG (key : List V) (s : List (List V) × List Int) : List (List V) × List Int:=
 if posG key s.1 = s.1.length then (s.1 ++ [key],s.2 ++ [1]) else (s.1,s.2.set (posG key s.1) (s.2.getD (posG key s.1) 0 + 1))
def groG (cs : List Int) (rs : List (List V)) : List (List V) × List Int:=rs.foldl (fun s r=>stpG (pkR cs r) s) ([],[])
theorem groG_next {cs : List Int} {rs : List (List V)} {i : Nat} {x : List V} (hx : rs[i]? = some x) : groG cs (rs.take (i + 1)) = stpG (pkR cs x) (groG cs (rs.take i)):=by
 unfold groG
 rw [take_next hx,List.foldl_append]
 rfl
structure GroI (cs : List Int) (rs : List (List V)) (n : Nat) (s : List (List V) × List Int) : Prop where
 same : s.2.length = s.1.length
 few : s.1.length ≤ n
 cnt : ∀ c,c ∈ s.2 → 0 ≤ c ∧ c ≤ n
 key : ∀ k,k ∈ s.1 → ∃ r,r ∈ rs ∧ k = pkR cs r
theorem stpG_inv {cs : List Int} {rs : List (List V)} {n : Nat} {s : List (List V) × List Int} (h : GroI cs rs n s) {x : List V} (hx : x ∈ rs) : GroI cs rs (n + 1) (stpG (pkR cs x) s):=by
 have h1:=h.same
 have h2:=h.few
 unfold stpG
 split
 ·refine ⟨by rw [List.length_append,List.length_append,h1]; rfl,by rw [List.length_append,List.length_singleton]; omega,fun c hc=>?_,fun k hk=>?_⟩
  ·rcases List.mem_append.1 hc with hc | hc
   ·have:=h.cnt c hc; omega
   ·rw [List.mem_singleton.1 hc]; omega
  ·rcases List.mem_append.1 hk with hk | hk
   ·exact h.key k hk
   ·exact ⟨x,hx,List.mem_singleton.1 hk⟩
 ·refine ⟨by rw [List.length_set]; exact h1,by show s.1.length ≤ n + 1; omega,fun c hc=>?_,h.key⟩
  rcases List.mem_or_eq_of_mem_set hc with hc | rfl
  ·have:=h.cnt c hc; omega
  ·rw [List.getD_eq_getElem?_getD]
   cases hg : s.2[posG (pkR cs x) s.1]? with
   | none=>simp only [Option.getD_none]; omega
   | some y=>
    have:=h.cnt y (List.mem_of_getElem? hg)
    simp only [Option.getD_some]; omega
theorem groG_inv (cs : List Int) (rs : List (List V)) : ∀ i,i ≤ rs.length → GroI cs rs i (groG cs (rs.take i))
 | 0,_=>⟨rfl,Nat.le_refl _,(fun c hc=>by cases hc),(fun k hk=>by cases hk)⟩
 | i + 1,hi=>by
  obtain ⟨x,hx⟩ : ∃ x,rs[i]? = some x:=⟨_,List.getElem?_eq_getElem (by omega)⟩
  rw [groG_next hx]
  exact stpG_inv (groG_inv cs rs i (by omega)) (List.mem_of_getElem? hx)
def grpL (cs : List Int) (rs : List (List V)) : List (List V):=List.zipWith (fun k c=>k ++ [⟨false,c⟩]) (groG cs rs).1 (groG cs rs).2
theorem posG_le (key : List V) (ks : List (List V)) : posG key ks ≤ ks.length:=List.findIdx_le_length
theorem posG_ne {key : List V} {ks : List (List V)} {j : Nat} {a : List V} (hj : j < posG key ks) (ha : ks[j]? = some a) : cmpR a key ≠ 0:=by
 have h1:=List.not_of_lt_findIdx hj
 obtain ⟨hl,rfl⟩:=List.getElem?_eq_some_iff.1 ha
 unfold isK at h1
 simpa using h1
theorem posG_eq {key : List V} {ks : List (List V)} {a : List V} (ha : ks[posG key ks]? = some a) : cmpR a key = 0:=by
 obtain ⟨hl,rfl⟩:=List.getElem?_eq_some_iff.1 ha
 have h1:=List.findIdx_getElem (xs:=ks) (p:=isK key) (w:=hl)
 unfold isK at h1
 exact beq_iff_eq.1 h1
theorem grp_rsw {w : Nat} {rs : List (List V)} (hs : RsW w rs) (hl : rs.length ≤ 400) {cs : List Int} (hc : ∀ c,c ∈ cs → 0 ≤ c ∧ c < w) : RsW (cs.length + 1) (grpL cs rs):=by
 have hfi:=groG_inv cs rs rs.length (Nat.le_refl _)
 rw [List.take_length] at hfi
 have hkw : ∀ x,x ∈ rs → (pkR cs x).length = cs.length ∧ ∀ v,v ∈ pkR cs x → v.ok:=fun x hx=>⟨List.length_map _,fun v hv=>by
  obtain ⟨c,hcm,rfl⟩:=List.mem_map.1 hv
  have hcc:=hc c hcm
  have hxr:=hs x hx
  exact hxr.2 _ (List.mem_of_getElem? (pk_at (by omega)))⟩
 intro r hr
 obtain ⟨j,hj⟩:=List.mem_iff_getElem?.1 hr
 unfold grpL at hj
 rw [List.getElem?_zipWith] at hj
 cases hk : (groG cs rs).1[j]? with
 | none=>rw [hk] at hj; cases hj
 | some k=>
  cases hn : (groG cs rs).2[j]? with
  | none=>rw [hk,hn] at hj; cases hj
  | some c=>
   rw [hk,hn] at hj
   cases hj
   obtain ⟨x,hx,rfl⟩:=hfi.key k (List.mem_of_getElem? hk)
   have h1:=hkw x hx
   have h2:=hfi.cnt c (List.mem_of_getElem? hn)
   exact ⟨by rw [List.length_append,h1.1]; rfl,fun v hv=>(List.mem_append.1 hv).elim (h1.2 v) (fun hv=>by rw [List.mem_singleton.1 hv]; exact okV (by omega) (by omega) (fun e=>by cases e))⟩
theorem groupTable_ok {w : Nat} (hw : w < 1000) (rs : List (List V)) (hl : rs.length ≤ 400) (hs : RsW w rs) (cs : List Int) (hcl : cs.length < 900) (hc : ∀ c,c ∈ cs → 0 ≤ c ∧ c < w) :
  Does Tryz.prog 104 [] [taD ⟨w,rs⟩,intsD cs] (taD (tabT ((cs.length : Int) + 1) (grpL cs rs))) []:=by
 have hfi:=groG_inv cs rs rs.length (Nat.le_refl _)
 rw [List.take_length] at hfi
 have hkw : ∀ x,x ∈ rs → (pkR cs x).length = cs.length ∧ ∀ v,v ∈ pkR cs x → v.ok:=fun x hx=>⟨List.length_map _,fun v hv=>by
  obtain ⟨c,hcm,rfl⟩:=List.mem_map.1 hv
  have hcc:=hc c hcm
  have hxr:=hs x hx
  exact hxr.2 _ (List.mem_of_getElem? (pk_at (by omega)))⟩
 have hgl : (grpL cs rs).length = (groG cs rs).1.length:=by
  unfold grpL
  rw [List.length_zipWith,hfi.same,Nat.min_self]
 have hrw : RsW (cs.length + 1) (grpL cs rs):=grp_rsw hs hl hc
 have h3:=tableOf_tab ((cs.length : Int) + 1) (cs.length + 1) (by omega) (grpL cs rs) (by have:=hfi.few; omega) hrw
 have htk : ((grpL cs rs).map rowD).take (groG cs rs).1.length = (grpL cs rs).map rowD:=by rw [← hgl]; exact take_all rowD _
 refine Bg c_Z89 mixed (go1 trivial ?_)
 refine dw_for (c:=4) (l:=fun i=>[(1,intsD cs),(2,.ref 1000000 0),(4,.ref 1000001 0),(5,.own 1000002 1 (groG cs (rs.take i)).1.length),(6,.own 1000003 1 (groG cs (rs.take i)).1.length),(7,I i),(1000000,.obj [I w,rowsD rs]),(1000001,.obj [I 0,.nul]),(1000002,.row 1 ((groG cs (rs.take i)).1.map rowD)),(1000003,.row 1 ((groG cs (rs.take i)).2.map I))]) rs.length (fun _=>True) 0 trivial ((wk_row 5 2000090 1 (by decide) (by decide) rfl rfl).trans ((wk_row 6 2000091 1 (by decide) (by decide) rfl rfl).trans (Wk.list [2000002,2000004,2000090,2000091] rfl rfl ?_))) (fun i hi _=>?_) (Nat.zero_le _)
 ·repeat' (first|(conv in hold _=>simp (disch:=omega) only [go_sem])|exact trivial|exact Sub.refl _|omega)
  repeat' (first|rfl | constructor)
 ·have hgi:=groG_inv cs rs i hi
  rcases at_or_end hi with ⟨x,hx,hlt⟩ | rfl
  ·have hxm:=List.mem_of_getElem? hx
   have hxr:=hs x hxm
   have hkx:=hkw x hxm
   have hpk:=pickCols_ok cs x (by omega) (by omega) (fun c hcm=>by have:=hc c hcm; omega)
   have hnx:=groG_next (cs:=cs) hx
   have hkey:=hgi.key
   have hsm:=hgi.same
   have hfw:=hgi.few
   have hcn:=hgi.cnt
   generalize pkR cs x = key at hpk hnx hkx
   generalize groG cs (rs.take i) = s at hnx hkey hsm hfw hcn
   obtain ⟨ks,ns⟩:=s
   simp only at hkey hsm hfw hcn
   have hpl:=posG_le key ks
   refine go1 @hx ?_
   refine Uc trivial (hpk) (go1 trivial ?_)
   refine dw_for (c:=4) (l:=fun k=>[(1,intsD cs),(2,.ref 1000000 0),(4,.ref 1000001 0),(5,.own 1000002 1 ks.length),(6,.own 1000003 1 ks.length),(7,I i),(8,rowD key),(9,I k),(1000000,.obj [I w,rowsD rs]),(1000001,.obj [I 0,.nul]),(1000002,.row 1 (ks.map rowD)),(1000003,.row 1 (ns.map I))]) ks.length (fun k=>k ≤ posG key ks) 0 (Nat.zero_le _) (Wk.list [1000000,1000001,1000002,1000003] rfl rfl ?_) (fun k hk hJ=>?_) (Nat.zero_le _)
   ·repeat' (first|(conv in hold _=>simp (disch:=omega) only [go_sem])|exact trivial|exact Sub.refl _|omega)
    first | exact rfl | exact ⟨rfl,rfl⟩ | exact ⟨rfl,rfl,rfl⟩ | skip
   ·by_cases hkp : k = posG key ks
    ·by_cases hkl : k = ks.length
     ·have hst : stpG key (ks,ns) = (ks ++ [key],ns ++ [1]):=by unfold stpG; rw [if_pos (by show posG key ks = ks.length; omega)]
      rw [hst] at hnx
      have hn1 : (groG cs (rs.take (i + 1))).1 = ks ++ [key]:=by rw [hnx]
      have hn2 : (groG cs (rs.take (i + 1))).2 = ns ++ [1]:=by rw [hnx]
      have t1 : (ks.map rowD).take ks.length = ks.map rowD:=take_all rowD ks
      have t2 : (ns.map I).take ks.length = ns.map I:=by rw [← hsm]; exact take_all I ns
      have t3 : (ns.map I ++ [I 0])[ks.length]? = some (I 0):=by rw [List.getElem?_append_right (by rw [List.length_map]; omega),List.length_map,hsm,Nat.sub_self]; rfl
      have t4 : (ns.map I ++ [I 0]).set ks.length (I 1) = (ns ++ [1]).map I:=by rw [List.set_append_right _ _ (by rw [List.length_map]; omega),List.length_map,hsm,Nat.sub_self,List.map_append]; rfl
      subst hkl
      refine go1 (cj4 @t1 @t2 @t3 @t4) ?_
      refine ⟨hlt,trivial,Wk.list [1000000,1000001,2000050,2000053] rfl rfl ?_⟩
      repeat' (first|(conv in hold _=>simp (disch:=omega) only [go_sem,hn1,hn2,t1,t2,t4])|exact trivial|exact Sub.refl _|omega)
      rw [List.map_append,← t4]
      exact ⟨rfl,rfl⟩
     ·obtain ⟨a,ha⟩ : ∃ a,ks[k]? = some a:=⟨_,List.getElem?_eq_getElem (by omega)⟩
      have hcm : cmpR a key = 0:=posG_eq (by rw [← hkp]; exact ha)
      obtain ⟨y,hy,hya⟩:=hkey a (List.mem_of_getElem? ha)
      have hal : a.length = cs.length:=by rw [hya]; exact List.length_map _
      have hcp:=compareRows_spec a key (by omega) (by omega)
      rw [hcm] at hcp
      obtain ⟨c,hcc⟩ : ∃ c,ns[k]? = some c:=⟨_,List.getElem?_eq_getElem (by omega)⟩
      have hc1:=hcn c (List.mem_of_getElem? hcc)
      have hst : stpG key (ks,ns) = (ks,ns.set k (c + 1)):=by
       unfold stpG
       rw [if_neg (by show ¬ posG key ks = ks.length; omega)]
       show (ks,ns.set (posG key ks) (ns.getD (posG key ks) 0 + 1)) = _
       rw [← hkp,List.getD_eq_getElem?_getD,hcc]
       rfl
      rw [hst] at hnx
      have hn1 : (groG cs (rs.take (i + 1))).1 = ks:=by rw [hnx]
      have hn2 : (groG cs (rs.take (i + 1))).2 = ns.set k (c + 1):=by rw [hnx]
      have t4 : (ns.map I).set k (I (c + 1)) = (ns.set k (c + 1)).map I:=by rw [List.map_set]
      have hkl2 : k < ks.length:=by omega
      have hkl3 : ((k : Int) == (ks.length : Int)) = false:=beq_eq_false_iff_ne.2 (by omega)
      refine go1 (cj2 @ha @hcc) ?_
      refine Uc (cj4 @ha @hcc @hkl3 @t4) (hcp) (go1 (cj4 @ha @hcc @hkl3 @t4) ?_)
      refine ⟨hlt,trivial,Wk.list [1000000,1000001,1000002,1000003] rfl rfl ?_⟩
      repeat' (first|(conv in hold _=>simp (disch:=omega) only [go_sem,hn1,hn2,t4])|exact trivial|exact Sub.refl _|omega)
      skip
    ·obtain ⟨a,ha⟩ : ∃ a,ks[k]? = some a:=⟨_,List.getElem?_eq_getElem (by omega)⟩
     have hcm : cmpR a key ≠ 0:=posG_ne (by omega) ha
     have hcm2 : (cmpR a key != 0) = true:=by rw [bne_iff_ne]; exact hcm
     obtain ⟨y,hy,hya⟩:=hkey a (List.mem_of_getElem? ha)
     have hal : a.length = cs.length:=by rw [hya]; exact List.length_map _
     have hcp:=compareRows_spec a key (by omega) (by omega)
     have hkl2 : k < ks.length:=by omega
     refine go1 @ha ?_
     refine Uc (cj2 @ha @hcm2) (hcp) (go1 (cj2 @ha @hcm2) ?_)
     refine ⟨hkl2,by omega,Wk.list [1000000,1000001,1000002,1000003] rfl rfl ?_⟩
     repeat' (first|(conv in hold _=>simp (disch:=omega) only [go_sem])|exact trivial|exact Sub.refl _|omega)
  ·rw [List.take_length]
   have hsm:=hfi.same
   have hfw:=hfi.few
   refine go1 trivial ?_
   refine dw_for (c:=5) (l:=fun j=>[(1,intsD cs),(4,.ref 1000001 0),(5,.own 1000002 1 (groG cs rs).1.length),(6,.own 1000003 1 (groG cs rs).1.length),(10,.own 1000004 1 j),(11,I j),(1000000,.obj [I w,rowsD rs]),(1000001,.obj [I 0,.nul]),(1000002,.row 1 ((groG cs rs).1.map rowD)),(1000003,.row 1 ((groG cs rs).2.map I)),(1000004,.row 1 (((grpL cs rs).take j).map rowD))]) (groG cs rs).1.length (fun _=>True) 0 trivial ((wk_row 10 2000092 1 (by decide) (by decide) rfl rfl).trans (Wk.list [1000000,1000001,1000002,1000003,2000092] rfl rfl ?_)) (fun j hj _=>?_) (Nat.zero_le _)
   ·repeat' (first|(conv in hold _=>simp (disch:=omega) only [go_sem])|exact trivial|exact Sub.refl _|omega)
    first | exact rfl | exact ⟨rfl,rfl⟩ | exact ⟨rfl,rfl,rfl⟩ | skip
   ·have htl : ((grpL cs rs).take j).length = j:=take_len (by rw [hgl]; exact hj)
    have htm : (((grpL cs rs).take j).map rowD).take j = ((grpL cs rs).take j).map rowD:=take_map rowD (by rw [hgl]; exact hj)
    by_cases hjl : j < (groG cs rs).1.length
    ·obtain ⟨k,hk⟩ : ∃ k,(groG cs rs).1[j]? = some k:=⟨_,List.getElem?_eq_getElem hjl⟩
     obtain ⟨c,hn⟩ : ∃ c,(groG cs rs).2[j]? = some c:=⟨_,List.getElem?_eq_getElem (by omega)⟩
     obtain ⟨y,hy,hya⟩:=hfi.key k (List.mem_of_getElem? hk)
     have hkl : k.length = cs.length:=by rw [hya]; exact List.length_map _
     have hcc:=concat_ok k [⟨false,c⟩] (by omega) (by show 1 < 1000000; omega)
     have hnx : (grpL cs rs).take (j + 1) = (grpL cs rs).take j ++ [k ++ [⟨false,c⟩]]:=take_next (by unfold grpL; rw [List.getElem?_zipWith,hk,hn])
     refine go1 (cj2 @hk @hn) ?_
     refine Uc (cj3 @hk @hn @htm) (hcc) (go1 (cj3 @hk @hn @htm) ?_)
     refine ⟨hjl,trivial,Wk.list [1000000,1000001,1000002,1000003,2000082] rfl rfl ?_⟩
     repeat' (first|(conv in hold _=>simp (disch:=omega) only [go_sem,hnx,htm])|exact trivial|exact Sub.refl _|omega)
     rw [show List.map rowD ((grpL cs rs).take j ++ [k ++ [(⟨false,c⟩ : V)]]) = List.map rowD ((grpL cs rs).take j) ++ [D.sl 2 (List.map vD (k ++ [(⟨false,c⟩ : V)]))] from List.map_append,show (k ++ [(⟨false,c⟩ : V)]).map vD = k.map vD ++ [vD ⟨false,c⟩] from List.map_append]
    ·obtain rfl : j = (groG cs rs).1.length:=by omega
     have e1 : (grpL cs rs).take (groG cs rs).1.length = grpL cs rs:=by rw [← hgl]; exact List.take_length
     rw [e1]
     refine go1C trivial ?_
     refine s_pre (pre_frz (t:=86) (g:=1000004) (by decide) (by decide) rfl ?_) ?_
     rotate_left
     refine go1 (cj2 @htk @hgl) ?_
     refine c_doesE (h3) ?_ ?_ ?_
     ·((try (conv=>rhs;simp (disch:=omega) only [go_sem,htk,hgl,List.length_map,Nat.le_refl])); try rfl)
     ·first|rfl|(conv=>lhs;simp only [go_sem,htk,hgl,List.length_map,Nat.le_refl])
     repeat' (first|with_reducible refine acc_none ?_ | (conv in hold _=>simp (disch:=omega) only [go_sem,htk,hgl,List.length_map,Nat.le_refl])|refine Stp.go ?_|(with_reducible first|refine it_pos rfl ?_|refine it_neg (by decide) ?_|refine st_nil rfl ?_|refine s_op ?_ ?_|exact trivial)|((with_reducible first|refine dw_reg0 ?_|refine dw_regB ?_);(conv=>arg 3;whnf))|(refine Spl.go (fun hq he=>?_) (fun hq he=>?_)<;>first|(exfalso;clear hq;omega)|((try first|(conv=>arg 8;simp only [hq])|(conv=>arg 4;simp only [hq]));clear hq))|((with_reducible first|refine c_split (fun hq=>?_) (fun hq=>?_)|refine q_split (fun hq=>?_) (fun hq=>?_))<;>(try first|(conv=>arg 8;simp only [hq])|(conv=>arg 4;simp only [hq])))|(with_reducible refine fin_0 ?_ (by first|rfl|(conv=>lhs;simp only [go_sem,htk,hgl,List.length_map,Nat.le_refl])) ?_)|exact Sub.refl _|omega)
     ·exact rows_pur _
end Go.Proofs.YtjngffbghkafaaaGreat
