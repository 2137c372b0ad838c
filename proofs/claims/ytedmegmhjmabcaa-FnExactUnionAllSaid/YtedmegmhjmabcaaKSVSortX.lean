/-
  The library's sort of a row of one's own whose elements are trees of one's own. No condition.
-/
import Derived.Test.YtedmegmhjmabcaaKSVSort
import Derived.Test.YtedmegmhjmabcaaKSVMix
set_option maxHeartbeats 4000000
set_option maxRecDepth 100000
set_option linter.unusedVariables false
set_option linter.unusedSimpArgs false
namespace Go.Proofs.Ytedmegmhjmabcaa
open Go.RowKit Go.Shelf Go.Lib Go.Sort
theorem Fz.wider {w : World} {F F1 : Cells} {m : Names} {d : D} {x : Value} (h : Fz w F m d x) (hF : ∀ b o,F b o → F1 b o) : Fz w F1 m d x:=
 h.still (T:=fun _=>True) ⟨rfl,rfl,rfl,Nat.le_refl _,fun _ _ h=>(h trivial).elim,fun _ cur _ _ h=>⟨cur,h,rfl⟩,fun b o h=>⟨hF b o h,rfl⟩,fun _ _ _ _ h=>(h trivial).elim,Nat.le_refl _⟩
theorem places_nd {β : Type} {cf : β → β → Int} {Q : β → Prop} (h : OrdOn cf Q) (a : β) (l : List β) (hl : ∀ b,b ∈ a :: l → Q b) : (placesOf l.length (fun i j=>cf ((a :: l).get i) ((a :: l).get j))).toList.Perm (List.finRange (l.length + 1)):=by
 have hp:=(places_ok h a l hl).1.2.2
 have hz:=placesOf_size h a l hl
 have ex : ∀ {α : Type} (d : Array α) (n : Nat),d.size = n → d.extract 0 n = d:=fun d n h=>by subst h; exact Array.extract_size
 have e1:=ex (placesOf l.length (fun i j=>cf ((a :: l).get i) ((a :: l).get j))) (l.length + 1) hz
 have e2:=ex (Array.ofFn (fun i : _root_.Fin (l.length + 1)=>i)) (l.length + 1) (by simp)
 rw [e1,e2] at hp
 rw [Array.toList_ofFn] at hp
 exact hp
section
variable {P : Program} {ρ : Ren} {β : Type}
theorem sort_rc (L : SlLaysF.n6 P ρ) {g : FuncId} (hg : enters P g = true) {caps : List D} (hcap : D.purL caps = true) (fD : β → D) (hcell : ∀ a,(fD a).cells = [fD a]) (hpur : ∀ a,(fD a).pur = true)
  {Q : β → Prop} {cf : β → β → Int} (hO : OrdOn cf Q) (hc : ∀ a b,Q a → Q b → Does P g [] (fD a :: fD b :: caps) (I (cf a b)) []) (l : List β) (hl : ∀ a,a ∈ l → Q a) (hsz : l.length ≤ 1099511627776) :
  RCalls P (ρ.f 6) [⟨0,1,l.map fD⟩] [kD 0 1 (l.map fD),.fn g caps] [⟨0,1,(sortL cf l).map fD⟩] 1 (.tup []):=by
 intro w F m B xs wf hOw hBF hmn hxs hds
 match xs,hxs with
 | [x0,x1],_=>
 have h0:=hds 0 _ x0 rfl rfl
 have h1:=hds 1 _ x1 rfl rfl
 have hfn : ∃ us : List Value,x1 = .func (.func g) #[] us.toArray ∧ us.length = caps.length ∧ ∀ (i : Nat) (d : D) (u : Value),caps[i]? = some d → us[i]? = some u → Fz w F m d u:=by
  cases h1 with
  | fn _ _ _ us hl hr=>exact ⟨us,rfl,hl,hr⟩
 obtain ⟨us,rfl,hul,hur⟩:=hfn
 cases l with
 | nil=>
  have hx0 : ∃ p cap,x0 = .slice p 0 cap:=by
   have h0 : Fz w F m (.sl 1 []) x0:=h0
   cases h0 with
   | sl0 _ _ a c=>exact ⟨_,_,rfl⟩
   | sl _ _ _ b off c=>exact ⟨_,_,rfl⟩
  obtain ⟨p,cap,rfl⟩:=hx0
  refine (AnyF.slices_SortFunc_none { L with } p cap _ w).mono ?_
  rintro e w' ⟨rfl,rfl⟩
  exact ⟨_,F,m,B,rfl,Chg.refl w' F _,wf,fun b hb=>.inl hb,hBF,fun _ _=>rfl,hmn,.tup m [] [] rfl (fun i d u hd=>by simp at hd),hOw⟩
 | cons a l=>
  have hflat : ∀ k : List β,D.flat (k.map fD) = k.map fD:=fun k=>by
   induction k with
   | nil=>rfl
   | cons x k ih=>
    rw [List.map_cons,D.flat,List.flatMap_cons,hcell]
    rw [D.flat] at ih
    rw [ih]
    rfl
  have hne : (a :: l).map fD ≠ []:=by simp
  obtain ⟨B1,B2,ht,hO2,_,hBB⟩:=hOw
  have hB2 : ∀ b,B b ↔ B1 b:=fun b=>(hBB b).trans ⟨fun h=>h.elim id (fun h=>(hO2 b h).elim),.inl⟩
  rcases ht with ⟨h,_⟩ | ⟨_,hκ,blk,cap0,hmb,hsep⟩
  ·exact absurd h hne
  have hmb : m 0 = some (some blk):=hmb
  have hsep : Sep w B1 (.sl 1 ((a :: l).map fD)) (.slice (some ⟨blk,0,none⟩) ((a :: l).map fD).length cap0):=hsep
  have hkow : Fz w F m (.kow 0 1 (l.length + 1)) x0:=by
   have e : kD 0 1 ((a :: l).map fD) = .kow 0 1 (l.length + 1):=by unfold kD; rw [if_neg hne,List.length_map]; rfl
   rw [← e]; exact h0
  obtain ⟨cap,rfl⟩ : ∃ cap,x0 = .slice (some ⟨blk,0,none⟩) (l.length + 1) cap:=by
   generalize hn : l.length + 1 = n at hkow
   cases hkow with
   | kow _ _ _ _ b2 cap2 cur2 T2 _ hg2 _ _ _ _=>
    rw [hmb] at hg2
    obtain rfl : blk = b2:=by injection hg2 with hg2; injection hg2
    exact ⟨cap2,rfl⟩
  rw [List.length_map] at hsep
  generalize hel : (a :: l).length = n0 at hsep
  generalize hes : (a :: l).map fD = es0 at hsep
  cases hsep with
  | sl0 _ _ _ _ _=>exact absurd hes hne
  | sl _ Bs _ _ _ _ cur T hs _ hle hlen hb hcapc h1c hr1 hd1 hn hB=>
  subst hes
  rw [hflat] at hr1 hd1 hn hB
  rw [List.length_map] at hle h1c hr1 hd1 hn hB
  have hsc : l.length + 1 ≤ cur.size:=by
   have : (a :: l).length = l.length + 1:=rfl
   omega
  rw [Nat.mul_one] at h1c hr1
  have hen : (a :: l).length = l.length + 1:=rfl
  rw [hen] at h1c hr1 hd1 hn hB
  have hclen : (cur.toList.take (l.length + 1)).length = l.length + 1:=by rw [List.length_take]; simp; omega
  let enc : _root_.Fin (l.length + 1) → Value:=fun i=>cur.getD i.val undef
  have henc : ∀ i : _root_.Fin (l.length + 1),(cur.toList.take (l.length + 1))[i.val]? = some (enc i):=fun i=>by
   have hi:=i.isLt
   rw [List.getElem?_take_of_lt hi]
   show cur.toList[i.val]? = some (cur.getD i.val undef)
   rw [Array.getElem?_toList,Array.getElem?_eq_getElem (by omega),Array.getD_eq_getD_getElem?,Array.getElem?_eq_getElem (by omega)]
   rfl
  have hone : OneCell enc:=fun i=>h1c _ (List.mem_of_getElem? (henc i))
  have hgetD : ∀ i : _root_.Fin (l.length + 1),((a :: l).map fD)[i.val]? = some (fD ((a :: l).get i)):=fun i=>by
   rw [List.getElem?_map,List.getElem?_eq_getElem (show i.val < (a :: l).length from i.isLt)]
   rfl
  have hsepi : ∀ i : _root_.Fin (l.length + 1),Sep w (Bs i.val) (fD ((a :: l).get i)) (enc i):=fun i=>hr1 i.val _ _ (hgetD i) (henc i)
  have hlt:=(Array.getElem?_eq_some_iff.1 hb).1
  have hBblk : B blk:=(hB2 blk).2 ((hB blk).2 (.inl rfl))
  have hF : ∀ o,¬ F blk o:=fun o ho=>hBF blk o hBblk ho
  have hBs : ∀ (i : _root_.Fin (l.length + 1)) (c : Nat),Bs i.val c → B c ∧ c ≠ blk:=fun i c hc=>⟨(hB2 c).2 ((hB c).2 (.inr ⟨i.val,i.isLt,hc⟩)),fun e=>hn i.val i.isLt (e ▸ hc)⟩
  obtain ⟨F1,hF1⟩ : ∃ F1 : Cells,F1 = fun b o=>F b o ∨ (B b ∧ b ≠ blk):=⟨_,rfl⟩
  have hFF : ∀ b o,F b o → F1 b o:=fun b o h=>by rw [hF1]; exact .inl h
  have hF1n : ∀ o,¬ F1 blk o:=fun o h=>by rw [hF1] at h; exact h.elim (hF o) (fun h=>h.2 rfl)
  have hrow1 : ∀ b,B1 b → b < w.heap.size:=fun b hb1=>by
   rcases (hB b).1 hb1 with rfl | ⟨k,hk,hbk⟩
   ·exact hlt
   ·obtain ⟨cur',T',h'⟩:=(hsepi ⟨k,hk⟩).row b hbk
    exact (Array.getElem?_eq_some_iff.1 h').1
  have wf1 : ∀ b o,F1 b o → b < w.heap.size:=fun b o h=>by
   rw [hF1] at h
   exact h.elim (wf b o) (fun h=>hrow1 b ((hB2 b).1 h.1))
  have hfz : ∀ i : _root_.Fin (l.length + 1),Fz w F1 noNames (fD ((a :: l).get i)) (enc i):=fun i=>(hsepi i).fz (fun b o hbo=>by rw [hF1]; exact .inr (hBs i b hbo))
  let d0 : Array (_root_.Fin (l.length + 1)):=Array.ofFn (fun i : _root_.Fin (l.length + 1)=>i)
  have hd0 : d0.size = l.length + 1:=Array.size_ofFn
  have hHolds : Holds enc w blk 0 d0:=fun j hj=>by
   rw [hd0] at hj
   have e1 : d0[j]! = ⟨j,hj⟩:=by rw [getElem!_pos d0 j (by rw [hd0]; exact hj)]; exact Array.getElem_ofFn ..
   rw [e1,Nat.zero_add]
   refine ⟨?_,?_⟩
   ·show World.cell? w ⟨blk,j,none⟩ = _
    unfold World.cell?
    have:=henc ⟨j,hj⟩
    rw [List.getElem?_take_of_lt hj,Array.getElem?_toList] at this
    simp only [hb]
    exact this
   ·show World.frozen? w ⟨blk,j,none⟩ = false
    unfold World.frozen?
    simp only [hb]
    simp
  let cf' : _root_.Fin (l.length + 1) → _root_.Fin (l.length + 1) → Int:=fun i j=>cf ((a :: l).get i) ((a :: l).get j)
  have hcmp : CmpLays1 P g us.toArray enc cf' blk 0 d0.size w:=by
   intro mm os dk hdk x y
   have c:=sw_chg enc (m:=mm) (dk:=dk) (os:=os) hb hF1n wf1
   have hd:=hc ((a :: l).get x) ((a :: l).get y) (hl _ (List.get_mem _ _)) (hl _ (List.get_mem _ _)) (sortWorld enc w blk 0 mm dk os) F1 noNames (enc x :: enc y :: us) (by simp [hul]) (Nat.zero_le _)
    (fun b o hf=>Nat.lt_of_lt_of_le (wf1 b o hf) c.size) (fun i d u hd hu=>by
     rcases i with _ | _ | i
     ·obtain rfl : _ = d:=by simpa using hd
      obtain rfl : _ = u:=by simpa using hu
      exact (hfz x).still c
     ·obtain rfl : _ = d:=by simpa using hd
      obtain rfl : _ = u:=by simpa using hu
      exact (hfz y).still c
     ·have hd' : caps[i]? = some d:=by simpa using hd
      exact (((hur i d u hd' (by simpa using hu)).wider hFF).still c).pure (D.purL_iff.1 hcap d (List.mem_of_getElem? hd')) _)
    (fun i d hd=>by simp at hd) (fun _ _=>rfl) (fun i j b hi=>by simp at hi)
   have e : #[enc x,enc y] ++ us.toArray = (enc x :: enc y :: us).toArray:=by simp
   rw [e]
   refine hd.mono ?_
   rintro e w' ⟨v,F1,m1,rfl,c1,_,_,_,hv,_⟩
   have hvI : v = .int .i64 (cf' x y):=hv.v_eq
   rw [hvI]
   exact ⟨rfl,grow_of c1⟩
  have hS:=Any.slices_SortFunc_eq L enc hone cf' (swo_of hO (a :: l) hl) g us.toArray blk 0 cap d0 w (fun args w=>run_callFunc hg args w) hcmp hHolds hlt (by rw [hd0]; have : (a :: l).length = l.length + 1:=rfl; omega)
  rw [hd0] at hS
  refine hS.mono ?_
  rintro e w' ⟨rfl,n,os,hw⟩
  have hpl : pdq (ltOf cf') d0 0 (l.length + 1) (Lib.bitLen (l.length + 1)) true true = placesOf l.length cf':=rfl
  rw [hpl] at hw
  have hps : (placesOf l.length cf').size = l.length + 1:=placesOf_size hO a l hl
  have hnd : (placesOf l.length cf').toList.Perm (List.finRange (l.length + 1)):=places_nd hO a l hl
  have hsl : sortL cf (a :: l) = (placesOf l.length cf').toList.map (fun i=>(a :: l).get i):=rfl
  generalize placesOf l.length cf' = dd at *
  subst hw
  have c:=sw_chg enc (m:=n) (dk:=dd) (os:=os) hb hF wf
  have hrow:=sw_row enc w blk 0 n dd os hb
  have hget : ∀ (k : Nat) (hk : k < l.length + 1),(putCells enc 0 dd cur).toList[k]? = some (enc (dd[k]'(by omega))):=fun k hk=>by
   rw [Array.getElem?_toList]
   unfold putCells
   rw [Array.getElem?_mapIdx,Array.getElem?_eq_getElem (by omega),Option.map_some,if_pos ⟨Nat.zero_le _,by omega⟩,Nat.sub_zero,getElem!_pos dd k (by omega)]
  have hlen2 : (sortL cf (a :: l)).length = l.length + 1:=by rw [hsl,List.length_map,Array.length_toList,hps]
  have hpc : (putCells enc 0 dd cur).toList.length = cur.size:=by unfold putCells; simp
  have hmem : ∀ (k : Nat) (u : Value),((putCells enc 0 dd cur).toList.take (l.length + 1))[k]? = some u → ∃ hk : k < l.length + 1,u = enc (dd[k]'(by omega)):=fun k u hu=>by
   have hk : k < l.length + 1:=by
    have:=(List.getElem?_eq_some_iff.1 hu).1
    rw [List.length_take] at this
    omega
   rw [List.getElem?_take_of_lt hk,hget k hk] at hu
   exact ⟨hk,by simpa using hu.symm⟩
  have hinj : ∀ (i j : Nat) (hi : i < l.length + 1) (hj : j < l.length + 1),(dd[i]'(by omega)).val = (dd[j]'(by omega)).val → i = j:=fun i j hi hj e=>by
   have hnd2 : dd.toList.Nodup:=hnd.nodup_iff.2 (List.nodup_finRange _)
   have e2 : dd[i]'(by omega) = dd[j]'(by omega):=Fin.ext e
   have h3 : dd.toList[i]'(by rw [Array.length_toList]; omega) = dd.toList[j]'(by rw [Array.length_toList]; omega):=by
    rw [Array.getElem_toList,Array.getElem_toList]; exact e2
   exact (List.getElem_inj hnd2).1 h3
  have hsur : ∀ k,k < l.length + 1 → ∃ i,∃ hi : i < l.length + 1,(dd[i]'(by omega)).val = k:=fun k hk=>by
   have hm : (⟨k,hk⟩ : _root_.Fin (l.length + 1)) ∈ dd.toList:=hnd.mem_iff.2 (List.mem_finRange _)
   obtain ⟨i,hi,e⟩:=List.getElem_of_mem hm
   rw [Array.length_toList] at hi
   refine ⟨i,by omega,?_⟩
   rw [Array.getElem_toList] at e
   rw [e]
  let Bs' : Nat → Blocks:=fun k=>if h : k < l.length + 1 then Bs (dd[k]'(by omega)).val else noBlocks
  have hBs' : ∀ (k : Nat) (hk : k < l.length + 1),Bs' k = Bs (dd[k]'(by omega)).val:=fun k hk=>dif_pos hk
  have hstay : ∀ b,B1 b → b ≠ blk → (sortWorld enc w blk 0 n dd os).heap[b]? = w.heap[b]?:=fun b hb1 hne2=>sw_other enc w blk 0 n dd os (hrow1 b hb1) hne2
  have hne' : (sortL cf (a :: l)).map fD ≠ []:=fun e=>by have:=congrArg List.length e; rw [List.length_map,hlen2] at this; simp at this
  refine ⟨_,F,m,B,rfl,c.mono (fun b hb=>by rw [hb]; exact hBblk),fun b o hf=>Nat.lt_of_lt_of_le (wf b o hf) c.size,fun b hb=>.inl hb,hBF,fun _ _=>rfl,hmn,.tup m [] [] rfl (fun i d u hd=>by simp at hd),?_⟩
  refine ⟨B1,B2,.inr ⟨hne',hκ,blk,((sortL cf (a :: l)).map fD).length,hmb,?_⟩,fun b hb=>(hO2 b hb).elim,fun b hb1 hb2=>(hO2 b hb2).elim,hBB⟩
  show Sep _ B1 (.sl 1 ((sortL cf (a :: l)).map fD)) (.slice (some ⟨blk,0,none⟩) ((sortL cf (a :: l)).map fD).length _)
  have hml : ((sortL cf (a :: l)).map fD).length = l.length + 1:=by rw [List.length_map,hlen2]
  refine .sl B1 Bs' 1 _ blk _ (putCells enc 0 dd cur) T (by decide) hne' (Nat.le_refl _) (fun e he=>?_) hrow ?_ (fun u hu=>?_) (fun k d u hd hu=>?_) (fun i j b hi hj hbi hbj=>?_) (fun k hk hb2=>?_) (fun b=>?_)
  ·obtain ⟨b,_,rfl⟩:=List.mem_map.1 he
   rw [hcell]; rfl
  ·rw [hml]
   have : (putCells enc 0 dd cur).size = cur.size:=by unfold putCells; simp
   omega
  ·rw [hml,Nat.mul_one] at hu
   obtain ⟨k,hk⟩:=List.mem_iff_getElem?.1 hu
   obtain ⟨hk',rfl⟩:=hmem k u hk
   exact hone _
  ·rw [hml,Nat.mul_one] at hu
   obtain ⟨hk',rfl⟩:=hmem k u hu
   rw [hflat,hsl,List.getElem?_map,List.getElem?_map,Array.getElem?_toList,Array.getElem?_eq_getElem (by omega)] at hd
   obtain rfl : fD ((a :: l).get (dd[k]'(by omega))) = d:=by simpa using hd
   rw [hBs' k hk']
   exact (hsepi _).stable (fun b hb2=>by
    obtain ⟨q1,q2⟩:=hBs _ b hb2
    exact hstay b ((hB2 b).1 q1) q2)
  ·rw [hflat,hml] at hi hj
   rw [hBs' i hi] at hbi
   rw [hBs' j hj] at hbj
   exact hinj i j hi hj (hd1 _ _ b (dd[i]'(by omega)).isLt (dd[j]'(by omega)).isLt hbi hbj)
  ·rw [hflat,hml] at hk
   rw [hBs' k hk] at hb2
   exact hn _ (dd[k]'(by omega)).isLt hb2
  ·rw [hB b,hflat,hml]
   constructor
   ·rintro (h | ⟨k,hk,hbk⟩)
    ·exact .inl h
    ·obtain ⟨i,hi,e⟩:=hsur k hk
     exact .inr ⟨i,hi,by rw [hBs' i hi,e]; exact hbk⟩
   ·rintro (h | ⟨k,hk,hbk⟩)
    ·exact .inl h
    ·rw [hBs' k hk] at hbk
     exact .inr ⟨_,(dd[k]'(by omega)).isLt,hbk⟩
end
end Go.Proofs.Ytedmegmhjmabcaa
