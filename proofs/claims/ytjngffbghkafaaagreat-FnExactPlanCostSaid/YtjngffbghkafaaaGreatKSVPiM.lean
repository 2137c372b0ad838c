/-
  What the program's operators hand out is a permutation of the model's. Plain lemmas.
-/
import Derived.Test.YtjngffbghkafaaaGreatKSVPiK
import Derived.Test.YtjngffbghkafaaaGreatJSVPlanO
set_option linter.unusedVariables false
namespace Go.Proofs.YtjngffbghkafaaaGreat
open Go.RowKit
theorem perm_of_mem {l m : List (List V)} (hl : l.Nodup) (hm : m.Nodup) (h : ∀ x,x ∈ l ↔ x ∈ m) : l.Perm m:=(List.perm_ext_iff_of_nodup hl hm).2 (fun a=>h a)
theorem headD_mem {g : List (List V)} (h : g ≠ []) : g.headD [] ∈ g:=by
 cases g with
 | nil=>exact absurd rfl h
 | cons a b=>exact List.mem_cons_self ..
theorem dstQ_nodup {w : Nat} (rs : List (List V)) (hs : RsW w rs) : (dstQ rs).Nodup:=by
 have hk : KeyW (fun x=>x) w (okR w):=fun x hx=>hx
 have hsp:=srK_perm hk hs
 have hq : ∀ x,x ∈ srK (fun x=>x) rs → okR w x:=fun x hx=>hs x (hsp.mem_iff.1 hx)
 have hpw:=runK_pw hk hq (srK_asc hk hs)
 unfold dstQ
 rw [List.Nodup,List.pairwise_map]
 refine List.Pairwise.imp_of_mem ?_ hpw
 intro a b ha hb hab he
 have h1:=hab _ (headD_mem (runK_ne ha).1) _ (headD_mem (runK_ne hb).1)
 rw [he,cK_self] at h1
 exact absurd h1 (by decide)
theorem dstQ_mem {w : Nat} (rs : List (List V)) (hs : RsW w rs) (x : List V) : x ∈ dstQ rs ↔ x ∈ rs:=by
 have hk : KeyW (fun x=>x) w (okR w):=fun x hx=>hx
 have hsp:=srK_perm hk hs
 unfold dstQ
 constructor
 ·intro h
  obtain ⟨g,hg,rfl⟩:=List.mem_map.1 h
  exact hsp.mem_iff.1 (runK_sub hg (headD_mem (runK_ne hg).1))
 ·intro h
  have h1:=hsp.mem_iff.2 h
  rw [← runK_flat (fun x=>x) (srK (fun x=>x) rs)] at h1
  obtain ⟨g,hg,hx⟩:=List.mem_flatten.1 h1
  exact List.mem_map.2 ⟨g,hg,((runK_ne hg).2 x hx).symm⟩
theorem dst_inv {w : Nat} {rs : List (List V)} (hs : RsW w rs) (ha : Asc rs) : ∀ i,i ≤ rs.length → (∀ (j : Nat) (x : List V),j < i → rs[j]? = some x → x ∈ dstL rs i) ∧ (dstL rs i).Nodup
 | 0,_=>⟨fun j x hj=>absurd hj (Nat.not_lt_zero _),List.Pairwise.nil⟩
 | i + 1,hi=>by
  obtain ⟨h1,h2⟩:=dst_inv hs ha i (by omega)
  have hx:=List.getElem?_eq_getElem (show i < rs.length by omega)
  have hgd : rs.getD i [] = rs[i]:=by rw [List.getD_eq_getElem?_getD,hx]; rfl
  rw [dstL,hgd]
  have hlt : ∀ x,x ∈ dstL rs i → dstP rs i = true → ¬ x = rs[i]:=fun x hm hp he=>by
   have hm2:=(dstL_sub rs i (by omega)).subset hm
   obtain ⟨j,hj⟩:=List.mem_iff_getElem?.1 hm2
   have hjl:=(List.getElem?_eq_some_iff.1 hj).1
   rw [List.length_take] at hjl
   rw [List.getElem?_take_of_lt (by omega)] at hj
   cases i with
   | zero=>omega
   | succ q=>
    have hq:=List.getElem?_eq_getElem (show q < rs.length by omega)
    have hgq : rs.getD q [] = rs[q]:=by rw [List.getD_eq_getElem?_getD,hq]; rfl
    unfold dstP at hp
    simp only at hp
    rw [hgq,hgd] at hp
    have hne : cmpR rs[q] rs[q + 1] ≠ 0:=by simpa using hp
    have h3 : leR rs[q] rs[q + 1]:=List.pairwise_iff_getElem.1 ha q (q + 1) (by omega) (by omega) (by omega)
    have h4 : cmpR x rs[q] ≤ 0:=by
     by_cases e : j = q
     ·subst e
      rw [hq] at hj
      cases hj
      rw [cmpR_self]
      exact Int.le_refl _
     ·obtain ⟨g1,rfl⟩:=List.getElem?_eq_some_iff.1 hj
      exact List.pairwise_iff_getElem.1 ha j q (by omega) (by omega) (by omega)
    rw [he] at h4
    unfold leR at h3
    have o1:=hs _ (List.getElem_mem (show q < rs.length by omega))
    have o2:=hs _ (List.getElem_mem (show q + 1 < rs.length by omega))
    have h5:=cmpR_anti rs[q] rs[q + 1] (by rw [o1.1,o2.1]) o1.2 o2.2
    omega
  split
  ·rename_i hp
   refine ⟨fun j x hj hxj=>?_,?_⟩
   ·by_cases e : j = i
    ·subst e
     rw [hx] at hxj
     cases hxj
     exact List.mem_append_right _ (List.mem_singleton.2 rfl)
    ·exact List.mem_append_left _ (h1 j x (by omega) hxj)
   ·rw [List.Nodup,List.pairwise_append]
    refine ⟨h2,List.pairwise_singleton _ _,fun a ha' b hb=>?_⟩
    rw [List.mem_singleton.1 hb]
    exact hlt a ha' hp
  ·rename_i hp
   rw [List.append_nil]
   refine ⟨fun j x hj hxj=>?_,h2⟩
   by_cases e : j = i
   ·subst e
    rw [hx] at hxj
    cases hxj
    cases j with
    | zero=>exact absurd rfl hp
    | succ q=>
     have hq:=List.getElem?_eq_getElem (show q < rs.length by omega)
     have hgq : rs.getD q [] = rs[q]:=by rw [List.getD_eq_getElem?_getD,hq]; rfl
     unfold dstP at hp
     simp only at hp
     rw [hgq,hgd] at hp
     have h0 : cmpR rs[q] rs[q + 1] = 0:=by simpa using hp
     rw [← cmpR_eq h0]
     exact h1 q _ (by omega) hq
   ·exact h1 j x (by omega) hxj
theorem dst_perm {w : Nat} {rq rs : List (List V)} (hs : RsW w rs) (ha : Asc rs) (hp : rq.Perm rs) : (dstQ rq).Perm (dstL rs rs.length):=by
 have hq : RsW w rq:=fun x hx=>hs x (hp.mem_iff.1 hx)
 obtain ⟨h1,h2⟩:=dst_inv hs ha rs.length (Nat.le_refl _)
 refine perm_of_mem (dstQ_nodup rq hq) h2 (fun x=>?_)
 rw [dstQ_mem rq hq,hp.mem_iff]
 constructor
 ·intro hm
  obtain ⟨j,hj⟩:=List.mem_iff_getElem?.1 hm
  exact h1 j x (List.getElem?_eq_some_iff.1 hj).1 hj
 ·intro hm
  have:=(dstL_sub rs rs.length (Nat.le_refl _)).subset hm
  rwa [List.take_length] at this
def cnK (cs : List Int) (rs : List (List V)) (k : List V) : Nat:=(rs.filter (fun x=>isK k (pkR cs x))).length
theorem isK_self (k : List V) : isK k k = true:=by unfold isK; rw [cmpR_self]; rfl
theorem isK_ne {k a : List V} (h : ¬ a = k) : isK k a = false:=by
 unfold isK
 rw [← Bool.not_eq_true,beq_iff_eq]
 exact fun e=>h (cmpR_eq e)
theorem cnK_next {cs : List Int} {rs : List (List V)} {i : Nat} {x : List V} (hx : rs[i]? = some x) (k : List V) : cnK cs (rs.take (i + 1)) k = cnK cs (rs.take i) k + (if pkR cs x = k then 1 else 0):=by
 unfold cnK
 rw [take_next hx,List.filter_append,List.length_append]
 congr 1
 by_cases h : pkR cs x = k
 ·rw [if_pos h,List.filter_cons,h,isK_self]
  rfl
 ·rw [if_neg h,List.filter_cons,isK_ne h]
  rfl
structure GrK (cs : List Int) (rs : List (List V)) (s : List (List V) × List Int) : Prop where
 same : s.2.length = s.1.length
 nodup : s.1.Nodup
 cnt : ∀ (j : Nat) (k : List V),s.1[j]? = some k → s.2[j]? = some (cnK cs rs k : Int)
 all : ∀ x,x ∈ rs → pkR cs x ∈ s.1
theorem grK_ok (cs : List Int) (rs : List (List V)) : ∀ i,i ≤ rs.length → GrK cs (rs.take i) (groG cs (rs.take i))
 | 0,_=>⟨rfl,List.Pairwise.nil,(fun j k h=>by simp [groG] at h),(fun x hx=>by cases hx)⟩
 | i + 1,hi=>by
  obtain ⟨x,hx⟩ : ∃ x,rs[i]? = some x:=⟨_,List.getElem?_eq_getElem (by omega)⟩
  obtain ⟨h1,h2,h3,h4⟩:=grK_ok cs rs i (by omega)
  rw [groG_next hx]
  have hfi:=groG_inv cs rs i (by omega)
  generalize groG cs (rs.take i) = s at *
  obtain ⟨ks,ns⟩:=s
  simp only at h1 h2 h3 h4
  have hall : ∀ y,y ∈ rs.take (i + 1) → y ∈ rs.take i ∨ y = x:=fun y hy=>by
   rw [take_next hx] at hy
   rcases List.mem_append.1 hy with hy | hy
   ·exact .inl hy
   ·exact .inr (List.mem_singleton.1 hy)
  unfold stpG
  simp only
  split
  ·rename_i hp
   have hnot : pkR cs x ∉ ks:=fun hm=>by
    obtain ⟨j,hj⟩:=List.mem_iff_getElem?.1 hm
    have hjl:=(List.getElem?_eq_some_iff.1 hj).1
    exact posG_ne (by rw [hp]; exact hjl) hj (cmpR_self _)
   have hzero : cnK cs (rs.take i) (pkR cs x) = 0:=by
    unfold cnK
    rw [List.length_eq_zero_iff,List.filter_eq_nil_iff]
    intro y hy hk
    have:=cmpR_eq (beq_iff_eq.1 hk)
    exact hnot (this ▸ h4 y hy)
   refine ⟨by rw [List.length_append,List.length_append,h1]; rfl,?_,fun j k hj=>?_,fun y hy=>?_⟩
   ·rw [List.Nodup,List.pairwise_append]
    refine ⟨h2,List.pairwise_singleton _ _,fun a ha b hb he=>?_⟩
    rw [List.mem_singleton.1 hb] at he
    exact hnot (he ▸ ha)
   ·have hj : (ks ++ [pkR cs x])[j]? = some k:=hj
    show (ns ++ [1])[j]? = some (cnK cs (rs.take (i + 1)) k : Int)
    rw [cnK_next hx]
    by_cases hlt : j < ks.length
    ·rw [List.getElem?_append_left hlt] at hj
     have hne : ¬ pkR cs x = k:=fun e=>hnot (by rw [e]; exact List.mem_of_getElem? hj)
     rw [List.getElem?_append_left (by omega),h3 j k hj,if_neg hne,Nat.add_zero]
    ·have hjl:=(List.getElem?_eq_some_iff.1 hj).1
     rw [List.length_append,List.length_singleton] at hjl
     obtain rfl : j = ks.length:=by omega
     rw [List.getElem?_append_right (Nat.le_refl _),Nat.sub_self] at hj
     obtain rfl : pkR cs x = k:=by simpa using hj
     rw [List.getElem?_append_right (by omega),h1,Nat.sub_self,if_pos rfl,hzero]
     rfl
   ·rcases hall y hy with hy | rfl
    ·exact List.mem_append_left _ (h4 y hy)
    ·exact List.mem_append_right _ (List.mem_singleton.2 rfl)
  ·rename_i hp
   have hple:=posG_le (pkR cs x) ks
   have hpl : posG (pkR cs x) ks < ks.length:=by omega
   have hpk:=List.getElem?_eq_getElem hpl
   have hkey:=cmpR_eq (posG_eq hpk)
   rw [hkey] at hpk
   have hold:=h3 _ _ hpk
   refine ⟨by rw [List.length_set]; exact h1,h2,fun j k hj=>?_,fun y hy=>?_⟩
   ·have hj : ks[j]? = some k:=hj
    show (ns.set (posG (pkR cs x) ks) (ns.getD (posG (pkR cs x) ks) 0 + 1))[j]? = some (cnK cs (rs.take (i + 1)) k : Int)
    rw [cnK_next hx]
    by_cases e : j = posG (pkR cs x) ks
    ·subst e
     rw [hpk] at hj
     obtain rfl:=Option.some.inj hj
     rw [List.getElem?_set_self (by omega),List.getD_eq_getElem?_getD,hold,if_pos rfl]
     rfl
    ·rw [List.getElem?_set_ne (fun e2=>e e2.symm),h3 j k hj,if_neg (fun e2=>?_),Nat.add_zero]
     obtain ⟨g1,g2⟩:=List.getElem?_eq_some_iff.1 hj
     obtain ⟨g3,g4⟩:=List.getElem?_eq_some_iff.1 hpk
     have hne:=fun (a b : Nat) (ha : a < ks.length) (hb : b < ks.length) (hab : a < b)=>List.pairwise_iff_getElem.1 h2 a b ha hb hab
     rcases Nat.lt_or_gt_of_ne e with hlt | hlt
     ·exact hne _ _ g1 g3 hlt (by rw [g2,g4,e2])
     ·exact hne _ _ g3 g1 hlt (by rw [g2,g4,e2])
   ·rcases hall y hy with hy | rfl
    ·exact h4 y hy
    ·exact List.mem_of_getElem? hpk
theorem grpL_nodup (cs : List Int) (rs : List (List V)) : (grpL cs rs).Nodup:=by
 obtain ⟨h1,h2,h3,h4⟩:=grK_ok cs rs rs.length (Nat.le_refl _)
 rw [List.take_length] at h1 h2 h3 h4
 unfold grpL
 generalize groG cs rs = s at *
 obtain ⟨ks,ns⟩:=s
 simp only at h1 h2 h3 h4
 rw [List.Nodup,List.pairwise_iff_getElem]
 intro i j hi hj hij he
 rw [List.length_zipWith] at hi hj
 simp only at hi hj
 rw [List.getElem_zipWith,List.getElem_zipWith] at he
 have:=(List.append_inj' he rfl).1
 exact List.pairwise_iff_getElem.1 h2 i j (by omega) (by omega) hij this
theorem grpL_mem (cs : List Int) (rs : List (List V)) (y : List V) : y ∈ grpL cs rs ↔ ∃ x,x ∈ rs ∧ y = pkR cs x ++ [⟨false,(cnK cs rs (pkR cs x) : Int)⟩]:=by
 obtain ⟨h1,h2,h3,h4⟩:=grK_ok cs rs rs.length (Nat.le_refl _)
 have hfi:=groG_inv cs rs rs.length (Nat.le_refl _)
 rw [List.take_length] at h1 h2 h3 h4 hfi
 have h5:=hfi.key
 unfold grpL
 generalize groG cs rs = s at *
 obtain ⟨ks,ns⟩:=s
 simp only at h1 h2 h3 h4 h5
 constructor
 ·intro hm
  obtain ⟨j,hj⟩:=List.mem_iff_getElem?.1 hm
  obtain ⟨hl,rfl⟩:=List.getElem?_eq_some_iff.1 hj
  rw [List.length_zipWith] at hl
  simp only at hl
  have hk:=List.getElem?_eq_getElem (show j < ks.length by omega)
  have hn:=h3 j _ hk
  obtain ⟨x,hx,he⟩:=h5 _ (List.mem_of_getElem? hk)
  rw [List.getElem_zipWith]
  have hn2 : ns[j] = (cnK cs rs ks[j] : Int):=by
   have:=List.getElem?_eq_getElem (show j < ns.length by omega)
   rw [hn] at this
   exact (Option.some.inj this).symm
  exact ⟨x,hx,by rw [hn2,he]⟩
 ·rintro ⟨x,hx,rfl⟩
  obtain ⟨j,hj⟩:=List.mem_iff_getElem?.1 (h4 x hx)
  have hn:=h3 j _ hj
  exact List.mem_of_getElem? (i:=j) (by rw [List.getElem?_zipWith,hj,hn])
theorem grpQ_run {w : Nat} {cs : List Int} (hk : KeyW (pkR cs) cs.length (okR w)) {l : List (List V)} (hq : ∀ x,x ∈ l → okR w x) (ha : AscK (pkR cs) l) {g : List (List V)} (hg : g ∈ runK (pkR cs) l) : l.filter (fun x=>isK (pkR cs (g.headD [])) (pkR cs x)) = g:=by
 have hpw:=runK_pw hk hq ha
 obtain ⟨j,hj⟩:=List.mem_iff_getElem?.1 hg
 obtain ⟨hl,hge⟩:=List.getElem?_eq_some_iff.1 hj
 have hsplit : runK (pkR cs) l = (runK (pkR cs) l).take j ++ g :: (runK (pkR cs) l).drop (j + 1):=by
  rw [← hge,← List.drop_eq_getElem_cons hl,List.take_append_drop]
 have hfl:=runK_flat (pkR cs) l
 rw [hsplit] at hpw
 have hp1:=List.pairwise_append.1 hpw
 have hm:=headD_mem (runK_ne hg).1
 rw [hsplit,List.flatten_append,List.flatten_cons] at hfl
 rw [← hfl,List.filter_append,List.filter_append]
 have e1 : ((runK (pkR cs) l).take j).flatten.filter (fun x=>isK (pkR cs (g.headD [])) (pkR cs x)) = []:=by
  rw [List.filter_eq_nil_iff]
  intro x hx hk2
  obtain ⟨g',hg',hx'⟩:=List.mem_flatten.1 hx
  have h1:=hp1.2.2 g' hg' g (List.mem_cons_self ..) x hx' _ hm
  have h2:=beq_iff_eq.1 hk2
  unfold cK at h1
  omega
 have e2 : g.filter (fun x=>isK (pkR cs (g.headD [])) (pkR cs x)) = g:=by
  rw [List.filter_eq_self]
  intro x hx
  rw [(runK_ne hg).2 x hx,isK_self]
 have e3 : ((runK (pkR cs) l).drop (j + 1)).flatten.filter (fun x=>isK (pkR cs (g.headD [])) (pkR cs x)) = []:=by
  rw [List.filter_eq_nil_iff]
  intro x hx hk2
  obtain ⟨g',hg',hx'⟩:=List.mem_flatten.1 hx
  have h1:=(List.pairwise_cons.1 hp1.2.1).1 g' hg' _ hm x hx'
  have h2:=cmpR_eq (beq_iff_eq.1 hk2)
  unfold cK at h1
  rw [h2,cmpR_self] at h1
  exact absurd h1 (by decide)
 rw [e1,e2,e3,List.nil_append,List.append_nil]
theorem grp_perm {w : Nat} {cs : List Int} (hc : ∀ c,c ∈ cs → 0 ≤ c ∧ c < w) {rq rs : List (List V)} (hs : RsW w rs) (hp : rq.Perm rs) : (grpQ cs rq).Perm (grpL cs rs):=by
 have hq : RsW w rq:=fun x hx=>hs x (hp.mem_iff.1 hx)
 have hk : KeyW (pkR cs) cs.length (okR w):=fun x hx=>⟨pkR_len cs x,fun v hv=>by
  obtain ⟨c,hm,rfl⟩:=List.mem_map.1 hv
  have h1:=hc c hm
  obtain ⟨c,rfl⟩:=Int.eq_ofNat_of_zero_le h1.1
  have h2:=pk_at (r:=x) (c:=c) (by have:=hx.1; omega)
  exact hx.2 _ (List.mem_of_getElem? h2)⟩
 have hsp:=srK_perm hk hq
 have hsq : ∀ x,x ∈ srK (pkR cs) rq → okR w x:=fun x hx=>hq x (hsp.mem_iff.1 hx)
 have hsa:=srK_asc hk hq
 have hpw:=runK_pw hk hsq hsa
 have hcnt : ∀ g,g ∈ runK (pkR cs) (srK (pkR cs) rq) → (g.length : Int) = (cnK cs rs (pkR cs (g.headD [])) : Int):=fun g hg=>by
  have h1:=grpQ_run hk hsq hsa hg
  unfold cnK
  rw [← ((hsp.trans hp).filter _).length_eq,h1]
 refine perm_of_mem ?_ (grpL_nodup cs rs) (fun y=>?_)
 ·unfold grpQ
  rw [List.Nodup,List.pairwise_map]
  refine List.Pairwise.imp_of_mem ?_ hpw
  intro a b ha hb hab he
  have h1:=hab _ (headD_mem (runK_ne ha).1) _ (headD_mem (runK_ne hb).1)
  have h2:=(List.append_inj' he rfl).1
  unfold cK at h1
  rw [h2,cmpR_self] at h1
  exact absurd h1 (by decide)
 ·rw [grpL_mem]
  unfold grpQ
  constructor
  ·intro hm
   obtain ⟨g,hg,rfl⟩:=List.mem_map.1 hm
   exact ⟨g.headD [],(hsp.trans hp).mem_iff.1 (runK_sub hg (headD_mem (runK_ne hg).1)),by rw [hcnt g hg]⟩
  ·rintro ⟨x,hx,rfl⟩
   have h1:=(hsp.trans hp).mem_iff.2 hx
   rw [← runK_flat (pkR cs) (srK (pkR cs) rq)] at h1
   obtain ⟨g,hg,hxg⟩:=List.mem_flatten.1 h1
   have h2:=(runK_ne hg).2 x hxg
   exact List.mem_map.2 ⟨g,hg,by rw [hcnt g hg,h2]⟩
theorem mtL_perm {ex : E} {r : List V} {rb rb' : List (List V)} (h : rb.Perm rb') : (mtL ex r rb).Perm (mtL ex r rb'):=(h.map _).filter _
theorem outL_perm {o : Bool} {n : Nat} {ex : E} {r : List V} {rb rb' : List (List V)} (h : rb.Perm rb') : (outL o n ex r rb).Perm (outL o n ex r rb'):=by
 have hm:=mtL_perm (ex:=ex) (r:=r) h
 have hf : fnd (mtL ex r rb) = fnd (mtL ex r rb'):=by
  have hl:=hm.length_eq
  unfold fnd
  cases h1 : mtL ex r rb with
  | nil=>
   cases h2 : mtL ex r rb' with
   | nil=>rfl
   | cons a b=>rw [h1,h2] at hl; cases hl
  | cons c d=>
   cases h2 : mtL ex r rb' with
   | nil=>rw [h1,h2] at hl; cases hl
   | cons a b=>rfl
 unfold outL
 rw [hf]
 split
 ·exact List.Perm.refl _
 ·exact hm
theorem flatMap_perm {f g : List V → List (List V)} (h : ∀ x,(f x).Perm (g x)) : ∀ l : List (List V),(l.flatMap f).Perm (l.flatMap g)
 | []=>List.Perm.refl _
 | a :: l=>by rw [List.flatMap_cons,List.flatMap_cons]; exact (h a).append (flatMap_perm h l)
theorem joi_perm {o : Bool} {n : Nat} {ex : E} {ra ra' rb rb' : List (List V)} (ha : ra.Perm ra') (hb : rb.Perm rb') : (joiL o n ex ra rb).Perm (joiL o n ex ra' rb'):=
 (ha.flatMap_right _).trans (flatMap_perm (fun x=>outL_perm hb) ra')
theorem col_perm {w : Int} {l m : List (List V)} (h : l.Perm m) : (colL l).Perm (tabT w m).rows:=by
 have hl:=h.length_eq
 unfold colL tabT
 simp only
 by_cases h4 : l.length ≤ 400
 ·rw [if_pos h4,if_pos (by omega)]
  exact h.trans (srt_perm m).symm
 ·rw [if_neg h4,if_neg (by omega)]
end Go.Proofs.YtjngffbghkafaaaGreat
