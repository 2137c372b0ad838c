/-
  The library's sort of values of one's own, of any number. No condition.
-/
import Derived.Test.YtedmegmhjmabcaaKSVSort
import Derived.Test.YtedmegmhjmabcaaKSVLaysV
import Derived.Test.YtedmegmhjmabcaaJSVCmpR
import Derived.Test.YtedmegmhjmabcaaJSVGateV
set_option maxHeartbeats 4000000
set_option maxRecDepth 100000
set_option linter.unusedVariables false
set_option linter.unusedSimpArgs false
namespace Go.Proofs.Ytedmegmhjmabcaa
open Go.RowKit Go.Shelf Go.Lib Go.Sort
def encV (v : V) : List Value:=[.bool v.b,.int .i64 v.n]
theorem flat_vals : ∀ l : List V,D.flat (l.map vD) = l.flatMap fun v=>[Bo v.b,I v.n]
 | []=>rfl
 | v :: l=>by
  have ih:=flat_vals l
  unfold D.flat at ih ⊢
  rw [List.map_cons,List.flatMap_cons,List.flatMap_cons,ih]
  rfl
theorem flat_valsL (l : List V) : (D.flat (l.map vD)).length = l.length * 2:=by
 rw [flat_vals]
 induction l with
 | nil=>rfl
 | cons v l ih=>rw [List.flatMap_cons,List.length_append,ih,List.length_cons]; simp; omega
theorem cells_vals {w : World} {F : Cells} {m : Names} : ∀ (l : List V) (us : List Value),us.length = l.length * 2 → (∀ (j : Nat) (d : D) (u : Value),(l.flatMap fun v=>[Bo v.b,I v.n])[j]? = some d → us[j]? = some u → Fz w F m d u) → us = l.flatMap encV
 | [],us,hl,_=>by
  have : us.length = 0:=by simpa using hl
  rw [List.length_eq_zero_iff.1 this]; rfl
 | v :: l,us,hl,h=>by
  rw [List.length_cons] at hl
  match us,hl with
  | u0 :: u1 :: us,hl=>
   have h0:=h 0 _ u0 rfl rfl
   have h1:=h 1 _ u1 rfl rfl
   have e0 : u0 = .bool v.b:=by cases h0; rfl
   have e1 : u1 = .int .i64 v.n:=by cases h1; rfl
   have ih:=cells_vals l us (by simp at hl; omega) (fun j d u hd hu=>h (j + 2) d u (by simpa using hd) (by simpa using hu))
   rw [List.flatMap_cons,← ih,e0,e1]
   rfl
  | [_],hl=>simp at hl; omega
  | [],hl=>simp at hl
theorem encV_one (l : List V) : ∀ u,u ∈ l.flatMap encV → u.oneCell' = true:=fun u hu=>by
 obtain ⟨v,_,hv⟩:=List.mem_flatMap.1 hu
 simp only [encV,List.mem_cons,List.not_mem_nil,or_false] at hv
 rcases hv with rfl | rfl <;> rfl
theorem encV_len (l : List V) : (l.flatMap encV).length = l.length * 2:=by
 induction l with
 | nil=>rfl
 | cons v l ih=>rw [List.flatMap_cons,List.length_append,ih,List.length_cons]; simp [encV]; omega
theorem encV_fz (w : World) (F : Cells) (m : Names) : ∀ (l : List V) (j : Nat) (d : D) (u : Value),(l.flatMap fun v=>[Bo v.b,I v.n])[j]? = some d → (l.flatMap encV)[j]? = some u → Fz w F m d u
 | [],j,d,u,hd,_=>by simp at hd
 | v :: l,0,d,u,hd,hu=>by
  obtain rfl : Bo v.b = d:=by simpa using hd
  obtain rfl : Value.bool v.b = u:=by simpa [encV] using hu
  exact .v m _
 | v :: l,1,d,u,hd,hu=>by
  obtain rfl : I v.n = d:=by simpa using hd
  obtain rfl : Value.int .i64 v.n = u:=by simpa [encV] using hu
  exact .v m _
 | v :: l,j + 2,d,u,hd,hu=>encV_fz w F m l j d u (by simpa using hd) (by simpa [encV] using hu)
theorem cellsV (w : World) (F : Cells) (m : Names) (l : List V) : CellsOK w F m (D.flat (l.map vD)) (l.flatMap encV):=
 ⟨by rw [encV_len,flat_valsL],encV_one l,fun j d u hd hu=>encV_fz w F m l j d u (by rw [flat_vals] at hd; exact hd) hu⟩
theorem flatK_list {α : Type} [Inhabited α] (enc : α → List Value) (k : Nat) (hk : ∀ x,(enc x).length = k) (d : Array α) : (flatK enc k d).toList = d.toList.flatMap enc:=by
 have h : ∀ ds : List α,(List.range (ds.length * k)).map (fun t=>(enc ds[t / k]!)[t % k]!) = ds.flatMap enc:=by
  intro ds
  induction ds with
  | nil=>simp
  | cons a ds ih=>
   rw [List.length_cons,Nat.add_mul,Nat.one_mul,Nat.add_comm,List.range_add,List.map_append,List.flatMap_cons,← ih,List.map_map]
   congr 1
   ·refine List.ext_getElem (by simp [hk]) (fun i h1 h2=>?_)
    have hi : i < k:=by simpa using h1
    rw [List.getElem_map,List.getElem_range,Nat.div_eq_of_lt hi,Nat.mod_eq_of_lt hi]
    simp [h2]
   ·refine List.map_congr_left (fun t ht=>?_)
    have ht:=List.mem_range.1 ht
    have hk0 : 0 < k:=by
     rcases Nat.eq_zero_or_pos k with h | h
     ·subst h; simp at ht
     ·exact h
    show (enc (a :: ds)[(k + t) / k]!)[(k + t) % k]! = _
    rw [Nat.add_mod_left,Nat.add_div_left _ hk0]
    simp
 have e : (flatK enc k d).toList = (List.range (d.toList.length * k)).map (fun t=>(enc d.toList[t / k]!)[t % k]!):=by
  unfold flatK
  rw [Array.toList_map,Array.toList_range,Array.length_toList]
  refine List.map_congr_left (fun t _=>?_)
  rw [show d.toList[t / k]! = d[t / k]! from Array.getElem!_toList ..]
 rw [e,h]
section
variable {P : Program} {ρ : Ren}
theorem sort_ownV (L : SlLaysF0.n6 P ρ) (aE : ∀ w,(isAgg (ρ.t 24)).run P w = .ok true w) (zE : ∀ w,(Go.sizeOf (ρ.t 24)).run P w = .ok 2 w) {g : FuncId} (hg : enters P g = true)
  {Q : V → Prop} {cf : V → V → Int} (hO : OrdOn cf Q) (hc : ∀ a b,Q a → Q b → Does P g [] [vD a,vD b] (I (cf a b)) []) (l : List V) (hl : ∀ a,a ∈ l → Q a) (hsz : l.length ≤ 1099511627776) :
  Does P (ρ.f 6) [.row 2 (l.map vD)] [.own 1000000 2 l.length,.fn g []] (.tup []) [.row 2 ((sortL cf l).map vD)]:=by
 intro w F m xs hxs _ wf hds hH hm0 hinj
 match xs,hxs with
 | [x0,x1],_=>
 have h0:=hds 0 _ x0 rfl rfl
 have h1:=hds 1 _ x1 rfl rfl
 obtain ⟨_,hB⟩:=hH 0 _ rfl
 have hfn : x1 = .func (.func g) #[] #[]:=by
  cases h1 with
  | fn _ _ _ us hl hr=>
   have : us = []:=List.length_eq_zero_iff.1 (by simpa using hl)
   rw [this]
 subst hfn
 cases l with
 | nil=>
  have hx0 : ∃ p cap,x0 = .slice p 0 cap:=by
   generalize hn : ([] : List V).length = n at h0
   cases h0 with
   | own _ _ _ _ b cap cur U hg hs hle hb hcap=>subst hn; exact ⟨_,cap,rfl⟩
   | own0 _ _ _ a hg=>exact ⟨a,0,rfl⟩
  obtain ⟨p,cap,rfl⟩:=hx0
  refine (AnyF.slices_SortFunc_none L p cap _ w).mono ?_
  rintro e w' ⟨rfl,rfl⟩
  refine ⟨_,F,m,rfl,Chg.refl w' F _,wf,fun _ _=>rfl,hm0,.tup m [] [] rfl (fun i d u hd=>by simp at hd),fun i d hd=>?_,fun i j b d d' hi hj _ _ h3 h4=>?_,fun i d b hd _ h3=>?_⟩
  ·rcases i with _ | i
   ·obtain rfl : D.row 2 [] = d:=by simpa [sortL] using hd
    exact ⟨(by intro h; cases h),hB⟩
   ·simp at hd
  ·have a1:=(List.getElem?_eq_some_iff.1 hi).1
   have a2:=(List.getElem?_eq_some_iff.1 hj).1
   simp at a1 a2
   omega
  ·have a1:=(List.getElem?_eq_some_iff.1 hd).1
   simp at a1
   subst a1
   exact .inl ⟨0,by simp,h3⟩
 | cons a l=>
  rcases hB with ⟨he,_⟩ | ⟨blk,cur,T,hmb,hb,_,hlen,hsc,hcs,hF⟩
  ·simp at he
  have hx0 : ∃ cap,x0 = .slice (some ⟨blk,0,none⟩) (l.length + 1) cap:=by
   generalize hn : (a :: l).length = n at h0
   cases h0 with
   | own _ _ _ _ b cap cur U hg hs hle hb' hcap=>
    have e : some (some b) = some (some blk):=hg.symm.trans hmb
    cases e
    exact ⟨cap,by rw [← hn]; rfl⟩
   | own0 _ _ _ a' hg=>simp at hn
  obtain ⟨cap,rfl⟩:=hx0
  have hN : ((a :: l).map vD).length * 2 = (l.length + 1) * 2:=by simp
  rw [hN] at hcs hsc
  have hcur : cur.toList.take ((l.length + 1) * 2) = (a :: l).flatMap encV:=cells_vals (w:=w) (F:=F) (m:=m) (a :: l) _ (by rw [hcs.len,flat_valsL]) (fun j d u hd hu=>hcs.fz j d u (by rw [flat_vals]; exact hd) hu)
  have hlt:=(Array.getElem?_eq_some_iff.1 hb).1
  let enc : _root_.Fin (l.length + 1) → List Value:=fun i=>encV ((a :: l).get i)
  have hek : ∀ i,(enc i).length = 2:=fun _=>rfl
  have he1 : ∀ i,∀ v ∈ enc i,v.oneCell' = true:=fun i v hv=>encV_one [(a :: l).get i] v (List.mem_flatMap.2 ⟨_,List.mem_singleton.2 rfl,hv⟩)
  let d0 : Array (_root_.Fin (l.length + 1)):=Array.ofFn (fun i : _root_.Fin (l.length + 1)=>i)
  have hd0 : d0.size = l.length + 1:=Array.size_ofFn
  have hencL : ∀ ds : List (_root_.Fin (l.length + 1)),ds.flatMap enc = (ds.map (fun i=>(a :: l).get i)).flatMap encV:=fun ds=>by rw [List.flatMap_map]; rfl
  have hd0L : (flatK enc 2 d0).toList = (a :: l).flatMap encV:=by
   rw [flatK_list enc 2 hek,hencL,Array.toList_ofFn,List.map_ofFn]
   congr 1
   refine List.ext_getElem (by simp) (fun i h1 h2=>?_)
   rw [List.getElem_ofFn]
   rfl
  have hHolds : HoldsK enc 2 w blk 0 d0:=fun j hj=>by
   rw [size_flatK,hd0] at hj
   have hjl : (flatK enc 2 d0)[j]? = cur[j]?:=by
    rw [← Array.getElem?_toList,hd0L,← hcur,List.getElem?_take_of_lt hj,Array.getElem?_toList]
   have hjc : j < cur.size:=by omega
   have hjf : j < (flatK enc 2 d0).size:=by rw [size_flatK,hd0]; exact hj
   rw [Array.getElem?_eq_getElem hjf,Array.getElem?_eq_getElem hjc] at hjl
   rw [Nat.zero_add,getElem!_pos _ j hjf]
   refine ⟨?_,?_⟩
   ·show World.cell? w ⟨blk,j,none⟩ = _
    unfold World.cell?
    simp only [hb]
    show cur[j]? = some ((flatK enc 2 d0)[j])
    rw [Array.getElem?_eq_getElem hjc,Option.some.inj hjl]
   ·show World.frozen? w ⟨blk,j,none⟩ = false
    unfold World.frozen?
    simp only [hb]
    simp
  let cf' : _root_.Fin (l.length + 1) → _root_.Fin (l.length + 1) → Int:=fun i j=>cf ((a :: l).get i) ((a :: l).get j)
  have hcmp : CmpLays P g #[] enc 2 cf' blk 0 d0.size w:=by
   intro mm os dk hdk x y
   have c:=sw_chg (α:=Value) id (m:=mm) (dk:=flatK enc 2 dk) (os:=os) hb hF wf
   have hd:=hc ((a :: l).get x) ((a :: l).get y) (hl _ (List.get_mem _ _)) (hl _ (List.get_mem _ _)) (sortWorldK enc 2 w blk 0 mm dk os) F noNames [.agg (enc x).toArray,.agg (enc y).toArray] rfl (Nat.zero_le _)
    (fun b o hf=>Nat.lt_of_lt_of_le (wf b o hf) c.size) (fun i d u hd hu=>by
     have hag : ∀ v : V,Fz (sortWorldK enc 2 w blk 0 mm dk os) F noNames (vD v) (.agg (encV v).toArray):=fun v=>
      .agg noNames [Bo v.b,I v.n] (encV v) rfl (fun u hu=>encV_one [v] u (by simpa using hu)) (fun i d u hd hu=>encV_fz _ _ _ [v] i d u (by simpa using hd) (by simpa using hu))
     rcases i with _ | _ | i
     ·obtain rfl : _ = d:=by simpa using hd
      obtain rfl : _ = u:=by simpa using hu
      exact hag _
     ·obtain rfl : _ = d:=by simpa using hd
      obtain rfl : _ = u:=by simpa using hu
      exact hag _
     ·simp at hd)
    (fun i d hd=>by simp at hd) (fun _ _=>rfl) (fun i j b hi=>by simp at hi)
   have e : #[Value.agg (enc x).toArray,.agg (enc y).toArray] ++ #[] = [Value.agg (enc x).toArray,.agg (enc y).toArray].toArray:=by simp
   rw [e]
   refine hd.mono ?_
   rintro e w' ⟨v,F1,m1,rfl,c1,_,_,_,hv,_⟩
   have hvI : v = .int .i64 (cf' x y):=hv.v_eq
   rw [hvI]
   exact ⟨rfl,grow_of c1⟩
  have hS:=AnyQ.slices_SortFunc_eq L 2 aE zE enc hek he1 cf' (swo_of hO (a :: l) hl) g #[] blk 0 cap d0 w (fun args w=>run_callFunc hg args w) hcmp hHolds hlt (by rw [hd0]; have : (a :: l).length = l.length + 1:=rfl; omega)
  rw [hd0] at hS
  refine hS.mono ?_
  rintro e w' ⟨rfl,n,os,hw⟩
  have hpl : pdq (ltOf cf') d0 0 (l.length + 1) (Lib.bitLen (l.length + 1)) true true = placesOf l.length cf':=rfl
  rw [hpl] at hw
  have hps : (placesOf l.length cf').size = l.length + 1:=placesOf_size hO a l hl
  have hsl : sortL cf (a :: l) = (placesOf l.length cf').toList.map (fun i=>(a :: l).get i):=rfl
  generalize placesOf l.length cf' = dd at *
  have hddL : (flatK enc 2 dd).toList = (sortL cf (a :: l)).flatMap encV:=by rw [flatK_list enc 2 hek,hencL,hsl]
  have hw2 : w' = sortWorld (α:=Value) id w blk 0 n (flatK enc 2 dd) os:=hw
  clear hw
  subst hw2
  have c:=sw_chg (α:=Value) id (m:=n) (dk:=flatK enc 2 dd) (os:=os) hb hF wf
  have hrow:=sw_row (α:=Value) id w blk 0 n (flatK enc 2 dd) os hb
  have hT : ∀ b,b = blk ↔ ∃ i,i < [D.row 2 ((a :: l).map vD)].length ∧ m (nb + i) = some (some b):=fun b=>by
   constructor
   ·rintro rfl; exact ⟨0,by simp,hmb⟩
   ·rintro ⟨i,hi,hb'⟩
    obtain rfl : i = 0:=by simpa using hi
    have e : some (some blk) = some (some b):=hmb.symm.trans hb'
    cases e
    rfl
  have hfs : (flatK enc 2 dd).size = (l.length + 1) * 2:=by rw [size_flatK,hps]
  have hput : (putCells (α:=Value) id 0 (flatK enc 2 dd) cur).toList.take ((l.length + 1) * 2) = (flatK enc 2 dd).toList:=by
   refine List.ext_getElem? (fun k=>?_)
   by_cases hk : k < (l.length + 1) * 2
   ·rw [List.getElem?_take_of_lt hk,Array.getElem?_toList,Array.getElem?_toList]
    unfold putCells
    rw [Array.getElem?_mapIdx,Array.getElem?_eq_getElem (by omega),Option.map_some,if_pos ⟨Nat.zero_le _,by omega⟩,Nat.sub_zero,getElem!_pos _ k (by omega),Array.getElem?_eq_getElem (by omega)]
    rfl
   ·rw [List.getElem?_eq_none (by rw [List.length_take]; omega),List.getElem?_eq_none (by rw [Array.length_toList]; omega)]
  have hlen2 : (sortL cf (a :: l)).length = l.length + 1:=by rw [hsl,List.length_map,Array.length_toList,hps]
  refine ⟨_,F,m,rfl,c.mono (fun b hb=>(hT b).1 hb),fun b o hf=>Nat.lt_of_lt_of_le (wf b o hf) c.size,fun _ _=>rfl,hm0,.tup m [] [] rfl (fun i d u hd=>by simp at hd),fun i d hd=>?_,fun i j b d d' hi hj _ _ h3 h4=>?_,fun i d b hd _ h3=>?_⟩
  ·rcases i with _ | i
   ·obtain rfl : D.row 2 ((sortL cf (a :: l)).map vD) = d:=by simpa using hd
    refine ⟨by intro h; (cases h),.inr ⟨blk,putCells (α:=Value) id 0 (flatK enc 2 dd) cur,T,hmb,hrow,by decide,fun e he=>?_,?_,?_,hF⟩⟩
    ·obtain ⟨b,_,rfl⟩:=List.mem_map.1 he
     rfl
    ·rw [List.length_map,hlen2]
     unfold putCells
     simp only [Array.size_mapIdx]
     omega
    ·rw [List.length_map,hlen2,hput,hddL]
     exact cellsV _ _ _ _
   ·simp at hd
  ·have a1:=(List.getElem?_eq_some_iff.1 hi).1
   have a2:=(List.getElem?_eq_some_iff.1 hj).1
   simp at a1 a2
   omega
  ·have a1:=(List.getElem?_eq_some_iff.1 hd).1
   simp at a1
   subst a1
   exact .inl ⟨0,by simp,h3⟩
end
theorem ord_vals : OrdOn cmpV V.ok where
 irrefl a ha:=by have:=cmpV_key ha ha; omega
 trans a b c ha hb hc h1 h2:=by
  have k1:=cmpV_key ha hb
  have k2:=cmpV_key hb hc
  have k3:=cmpV_key ha hc
  omega
 ntrans a b c ha hb hc h1 h2:=by
  have k1:=cmpV_key ha hb
  have k2:=cmpV_key hb hc
  have k3:=cmpV_key ha hc
  omega
theorem sort_valsN (l0 : List V) (hn : l0.length ≤ 1000000) (hok : ∀ v,v ∈ l0 → v.ok) : ∃ s : List V,s.Perm l0 ∧ s.Pairwise (fun a b=>cmpV a b ≤ 0) ∧
  Does Try.prog 119 [.row 2 (l0.map vD)] [.own 1000000 2 l0.length,.fn 62 []] (.tup []) [.row 2 (s.map vD)]:=by
 have hp:=sortL_perm ord_vals l0 hok
 refine ⟨sortL cmpV l0,hp,List.Pairwise.imp_of_mem ?_ (sortL_asc ord_vals l0 hok),sort_ownV valsSort aggV sizV (by kernel_rfl) ord_vals (fun x y hx hy=>Value_compare_ok x y hx hy) l0 hok (by omega)⟩
 intro a b ha hb h
 have ga:=hok a (hp.mem_iff.1 ha)
 have gb:=hok b (hp.mem_iff.1 hb)
 have k1:=cmpV_key ga gb
 have k2:=cmpV_key gb ga
 omega
end Go.Proofs.Ytedmegmhjmabcaa
