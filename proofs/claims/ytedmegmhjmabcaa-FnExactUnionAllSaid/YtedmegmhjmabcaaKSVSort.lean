/-
  The library's sort of a row of one's own whose elements stand still, by a comparison that is a strict weak order on them. No condition.
-/
import Derived.Shelf.SlSortCmp.NoneTotal
import Derived.Test.YtedmegmhjmabcaaJSVLib
set_option maxHeartbeats 4000000
set_option maxRecDepth 100000
set_option linter.unusedVariables false
set_option linter.unusedSimpArgs false
namespace Go.Proofs.Ytedmegmhjmabcaa
open Go.RowKit Go.Shelf Go.Lib Go.Sort
def placesOf (n : Nat) (cf : _root_.Fin (n + 1) → _root_.Fin (n + 1) → Int) : Array (_root_.Fin (n + 1)):=pdq (ltOf cf) (Array.ofFn (fun i : _root_.Fin (n + 1)=>i)) 0 (n + 1) (Lib.bitLen (n + 1)) true true
def sortL {β : Type} (cf : β → β → Int) : List β → List β
 | []=>[]
 | a :: l=>(placesOf l.length (fun i j=>cf ((a :: l).get i) ((a :: l).get j))).toList.map (fun i=>(a :: l).get i)
section
variable {β : Type}
structure OrdOn (cf : β → β → Int) (Q : β → Prop) : Prop where
 irrefl : ∀ a,Q a → ¬ cf a a < 0
 trans : ∀ a b c,Q a → Q b → Q c → cf a b < 0 → cf b c < 0 → cf a c < 0
 ntrans : ∀ a b c,Q a → Q b → Q c → ¬ cf a b < 0 → ¬ cf b c < 0 → ¬ cf a c < 0
theorem swo_of {cf : β → β → Int} {Q : β → Prop} (h : OrdOn cf Q) (l : List β) (hl : ∀ a,a ∈ l → Q a) : SWO (ltOf (fun i j : _root_.Fin l.length=>cf (l.get i) (l.get j))) where
 irrefl x:=by unfold ltOf; simpa using h.irrefl _ (hl _ (List.get_mem l x))
 trans x y z h1 h2:=by
  unfold ltOf at *
  simp only [decide_eq_true_eq] at *
  exact h.trans _ _ _ (hl _ (List.get_mem l x)) (hl _ (List.get_mem l y)) (hl _ (List.get_mem l z)) h1 h2
 ntrans x y z h1 h2:=by
  unfold ltOf at *
  simp only [decide_eq_false_iff_not] at *
  exact h.ntrans _ _ _ (hl _ (List.get_mem l x)) (hl _ (List.get_mem l y)) (hl _ (List.get_mem l z)) h1 h2
theorem places_ok {cf : β → β → Int} {Q : β → Prop} (h : OrdOn cf Q) (a : β) (l : List β) (hl : ∀ b,b ∈ a :: l → Q b) :
  PermIn 0 (l.length + 1) (Array.ofFn (fun i : _root_.Fin (l.length + 1)=>i)) (placesOf l.length (fun i j=>cf ((a :: l).get i) ((a :: l).get j))) ∧
  SortedIn (ltOf (fun i j : _root_.Fin (l.length + 1)=>cf ((a :: l).get i) ((a :: l).get j))) 0 (l.length + 1) (placesOf l.length (fun i j=>cf ((a :: l).get i) ((a :: l).get j))):=by
 have hs:=pdq_sorts (ltOf (fun i j : _root_.Fin (l.length + 1)=>cf ((a :: l).get i) ((a :: l).get j))) (swo_of h (a :: l) hl) (Array.ofFn (fun i : _root_.Fin (l.length + 1)=>i)) 0 (l.length + 1) (Lib.bitLen (l.length + 1)) true true (Nat.zero_le _) (by simp) (Or.inl rfl)
 exact hs
theorem placesOf_size {cf : β → β → Int} {Q : β → Prop} (h : OrdOn cf Q) (a : β) (l : List β) (hl : ∀ b,b ∈ a :: l → Q b) : (placesOf l.length (fun i j=>cf ((a :: l).get i) ((a :: l).get j))).size = l.length + 1:=by
 have:=(places_ok h a l hl).1.1
 simpa using this
theorem sortL_perm {cf : β → β → Int} {Q : β → Prop} (h : OrdOn cf Q) : ∀ (l : List β),(∀ b,b ∈ l → Q b) → (sortL cf l).Perm l
 | [],_=>List.Perm.refl _
 | a :: l,hl=>by
  have hp:=(places_ok h a l hl).1.2.2
  have hz:=placesOf_size h a l hl
  have ex : ∀ {α : Type} (d : Array α) (n : Nat),d.size = n → d.extract 0 n = d:=fun d n h=>by subst h; exact Array.extract_size
  have e1:=ex (placesOf l.length (fun i j=>cf ((a :: l).get i) ((a :: l).get j))) (l.length + 1) hz
  have e2:=ex (Array.ofFn (fun i : _root_.Fin (l.length + 1)=>i)) (l.length + 1) (by simp)
  rw [e1,e2] at hp
  have hq:=hp.map (fun i=>(a :: l).get i)
  refine (show (sortL cf (a :: l)).Perm _ from hq).trans ?_
  rw [Array.toList_ofFn,List.map_ofFn]
  have : List.ofFn ((fun i=>(a :: l).get i) ∘ fun i : _root_.Fin (l.length + 1)=>i) = a :: l:=by
   refine List.ext_getElem (by simp) (fun i h1 h2=>?_)
   rw [List.getElem_ofFn]
   rfl
  rw [this]
theorem sortL_asc {cf : β → β → Int} {Q : β → Prop} (h : OrdOn cf Q) : ∀ (l : List β),(∀ b,b ∈ l → Q b) → (sortL cf l).Pairwise (fun a b=>¬ cf b a < 0)
 | [],_=>List.Pairwise.nil
 | a :: l,hl=>by
  have hs:=(places_ok h a l hl).2
  have hz:=placesOf_size h a l hl
  show ((placesOf l.length (fun i j=>cf ((a :: l).get i) ((a :: l).get j))).toList.map (fun i=>(a :: l).get i)).Pairwise _
  generalize placesOf l.length (fun i j=>cf ((a :: l).get i) ((a :: l).get j)) = d at *
  rw [List.pairwise_map,List.pairwise_iff_getElem]
  intro i j hi hj hij
  have hi' : i < d.size:=by simpa using hi
  have hj' : j < d.size:=by simpa using hj
  have:=hs i j (Nat.zero_le _) hij (by omega)
  unfold ltOf at this
  rw [getElem!_pos d i hi',getElem!_pos d j hj'] at this
  simpa using this
end
section
variable {α : Type} [Inhabited α] (enc : α → Value)
theorem sw_size (w : World) (blk off m : Nat) (dk : Array α) (os : Array Obj) : (sortWorld enc w blk off m dk os).heap.size = w.heap.size + os.size:=by
 unfold sortWorld grow
 simp only [Array.size_append,size_putRow]
 rfl
theorem sw_other (w : World) (blk off m : Nat) (dk : Array α) (os : Array Obj) {b : Nat} (hb : b < w.heap.size) (hne : b ≠ blk) : (sortWorld enc w blk off m dk os).heap[b]? = w.heap[b]?:=by
 unfold sortWorld grow putRow mapBlock
 rw [Array.getElem?_append_left (by simpa [Sort.ahead] using hb),Array.getElem?_modify,if_neg (fun h=>hne h.symm)]
 rfl
theorem sw_row (w : World) (blk off m : Nat) (dk : Array α) (os : Array Obj) {cur : Array Value} {T : TypeId} {z : Nat × Nat} (hb : w.heap[blk]? = some (.cells cur T z)) : (sortWorld enc w blk off m dk os).heap[blk]? = some (.cells (putCells enc off dk cur) T z):=by
 have hlt:=(Array.getElem?_eq_some_iff.1 hb).1
 unfold sortWorld grow putRow mapBlock
 rw [Array.getElem?_append_left (by simpa [Sort.ahead] using hlt),Array.getElem?_modify,if_pos rfl]
 show Option.map _ w.heap[blk]? = _
 rw [hb]
 rfl
theorem sw_chg {w : World} {F : Cells} {blk m : Nat} {dk : Array α} {os : Array Obj} {cur : Array Value} {T : TypeId} (hb : w.heap[blk]? = some (.cells cur T (0,0))) (hF : ∀ o,¬ F blk o) (wf : ∀ b o,F b o → b < w.heap.size) :
  Chg w F (fun b=>b = blk) (sortWorld enc w blk 0 m dk os) F where
 os:=rfl
 tape:=rfl
 output:=rfl
 size:=by rw [sw_size]; omega
 block b hlt hn:=sw_other enc w blk 0 m dk os hlt hn
 shape b c U z hc:=by
  by_cases e : b = blk
  ·subst e
   rw [hb] at hc
   cases hc
   exact ⟨_,sw_row enc w b 0 m dk os hb,by unfold putCells; simp⟩
  ·exact ⟨c,(sw_other enc w blk 0 m dk os (Array.getElem?_eq_some_iff.1 hc).1 e).trans hc,rfl⟩
 keep b o hf:=by
  have e : b ≠ blk:=fun e=>hF o (e ▸ hf)
  refine ⟨hf,?_⟩
  unfold World.cell?
  rw [show (sortWorld enc w blk 0 m dk os).heap[b]? = w.heap[b]? from sw_other enc w blk 0 m dk os (wf b o hf) e]
 back b o hf _ _:=hf
 drawn:=by
  show w.drawn ≤ (Sort.ahead w m).drawn
  exact Nat.le_add_right _ _
theorem grow_of {W w' : World} {F F' : Cells} (c : Chg W F (fun b=>∃ i,i < ([] : List D).length ∧ (noNames (nb + i)) = some (some b)) w' F') : ∃ q os',w' = grow (W.drewN q) os':=by
 refine ⟨w'.drawn - W.drawn,w'.heap.extract W.heap.size w'.heap.size,?_⟩
 have hd:=c.drawn
 have hh : w'.heap = W.heap ++ w'.heap.extract W.heap.size w'.heap.size:=by
  apply Array.ext_getElem?
  intro b
  rw [Array.getElem?_append]
  split
  ·rename_i hlt
   exact c.block b hlt (fun ⟨i,hi,_⟩=>by simp at hi)
  ·rename_i hge
   rw [Array.getElem?_extract]
   have hs:=c.size
   by_cases hb : b < w'.heap.size
   ·rw [if_pos (by omega)]
    congr 1
    omega
   ·rw [if_neg (by omega),Array.getElem?_eq_none (by omega)]
 have hdr : (W.drewN (w'.drawn - W.drawn)).drawn = w'.drawn:=by
  show W.drawn + (w'.drawn - W.drawn) = w'.drawn
  omega
 have h1:=c.os
 have h2:=c.tape
 have h3:=c.output
 cases w' with
 | mk heap tape drawn os output=>
  cases W with
  | mk heap0 tape0 drawn0 os0 output0=>
   simp only at h1 h2 h3 hh hdr
   subst h1 h2 h3
   unfold grow
   simp only [World.drewN] at hdr ⊢
   congr 1
   exact hdr.symm
end
section
variable {P : Program} {ρ : Ren} {β : Type}
theorem sort_own (L : SlLaysF.n6 P ρ) {g : FuncId} (hg : enters P g = true) {caps : List D} (hcap : D.purL caps = true) (fD : β → D) (hcell : ∀ a,(fD a).cells = [fD a]) (hpur : ∀ a,(fD a).pur = true)
  {Q : β → Prop} {cf : β → β → Int} (hO : OrdOn cf Q) (hc : ∀ a b,Q a → Q b → Does P g [] (fD a :: fD b :: caps) (I (cf a b)) []) (l : List β) (hl : ∀ a,a ∈ l → Q a) (hsz : l.length ≤ 1099511627776) :
  Does P (ρ.f 6) [.row 1 (l.map fD)] [.own 1000000 1 l.length,.fn g caps] (.tup []) [.row 1 ((sortL cf l).map fD)]:=by
 intro w F m xs hxs _ wf hds hH hm0 hinj
 match xs,hxs with
 | [x0,x1],_=>
 have h0:=hds 0 _ x0 rfl rfl
 have h1:=hds 1 _ x1 rfl rfl
 obtain ⟨_,hB⟩:=hH 0 _ rfl
 have hfn : ∃ us : List Value,x1 = .func (.func g) #[] us.toArray ∧ us.length = caps.length ∧ ∀ (i : Nat) (d : D) (u : Value),caps[i]? = some d → us[i]? = some u → Fz w F m d u:=by
  cases h1 with
  | fn _ _ _ us hl hr=>exact ⟨us,rfl,hl,hr⟩
 obtain ⟨us,rfl,hul,hur⟩:=hfn
 cases l with
 | nil=>
  have hx0 : ∃ p cap,x0 = .slice p 0 cap:=by
   generalize hn : ([] : List β).length = n at h0
   cases h0 with
   | own _ _ _ _ b cap cur U hg hs hle hb hcap=>subst hn; exact ⟨_,cap,rfl⟩
   | own0 _ _ _ a hg=>exact ⟨a,0,rfl⟩
  obtain ⟨p,cap,rfl⟩:=hx0
  refine (AnyF.slices_SortFunc_none { L with } p cap _ w).mono ?_
  rintro e w' ⟨rfl,rfl⟩
  refine ⟨_,F,m,rfl,Chg.refl w' F _,wf,fun _ _=>rfl,hm0,.tup m [] [] rfl (fun i d u hd=>by simp at hd),fun i d hd=>?_,fun i j b d d' hi hj _ _ h3 h4=>?_,fun i d b hd _ h3=>?_⟩
  ·rcases i with _ | i
   ·obtain rfl : D.row 1 [] = d:=by simpa [sortL] using hd
    exact ⟨(by intro h; cases h),hB⟩
   ·simp at hd
  ·have a1:=(List.getElem?_eq_some_iff.1 hi).1
   have a2:=(List.getElem?_eq_some_iff.1 hj).1
   simp at a1 a2
   omega
  ·have a1:=(List.getElem?_eq_some_iff.1 hd).1
   simp at a1
   subst a1
   exact .inl ⟨0,by simp,h3⟩
 | cons a l=>
  have hflat : ∀ k : List β,D.flat (k.map fD) = k.map fD:=fun k=>by
   induction k with
   | nil=>rfl
   | cons x k ih=>
    rw [List.map_cons,D.flat,List.flatMap_cons,hcell]
    rw [D.flat] at ih
    rw [ih]
    rfl
  rcases hB with ⟨he,_⟩ | ⟨blk,cur,T,hmb,hb,_,hlen,hsc,hcs,hF⟩
  ·simp at he
  rw [hflat] at hcs
  have hx0 : ∃ cap,x0 = .slice (some ⟨blk,0,none⟩) (l.length + 1) cap:=by
   generalize hn : (a :: l).length = n at h0
   cases h0 with
   | own _ _ _ _ b cap cur U hg hs hle hb' hcap=>
    have e : some (some b) = some (some blk):=hg.symm.trans hmb
    cases e
    exact ⟨cap,by rw [← hn]; rfl⟩
   | own0 _ _ _ a' hg=>simp at hn
  obtain ⟨cap,rfl⟩:=hx0
  have hN : ((a :: l).map fD).length * 1 = l.length + 1:=by simp
  rw [hN] at hcs hsc
  have hclen : (cur.toList.take (l.length + 1)).length = l.length + 1:=by rw [List.length_take]; simp; omega
  -- the values in the row
  let enc : _root_.Fin (l.length + 1) → Value:=fun i=>cur.getD i.val undef
  have henc : ∀ i : _root_.Fin (l.length + 1),(cur.toList.take (l.length + 1))[i.val]? = some (enc i):=fun i=>by
   have hi:=i.isLt
   rw [List.getElem?_take_of_lt hi]
   show cur.toList[i.val]? = some (cur.getD i.val undef)
   rw [Array.getElem?_toList,Array.getElem?_eq_getElem (by omega),Array.getD_eq_getD_getElem?,Array.getElem?_eq_getElem (by omega)]
   rfl
  have hone : OneCell enc:=fun i=>hcs.one _ (List.mem_of_getElem? (henc i))
  have hfz : ∀ i : _root_.Fin (l.length + 1),Fz w F m (fD ((a :: l).get i)) (enc i):=fun i=>hcs.fz i.val _ _ (by
   rw [List.getElem?_map,List.getElem?_eq_getElem (show i.val < (a :: l).length from i.isLt)]
   rfl) (henc i)
  have hlt:=(Array.getElem?_eq_some_iff.1 hb).1
  let d0 : Array (_root_.Fin (l.length + 1)):=Array.ofFn (fun i : _root_.Fin (l.length + 1)=>i)
  have hd0 : d0.size = l.length + 1:=Array.size_ofFn
  have hHolds : Holds enc w blk 0 d0:=fun j hj=>by
   rw [hd0] at hj
   have e1 : d0[j]! = ⟨j,hj⟩:=by rw [getElem!_pos d0 j (by rw [hd0]; exact hj)]; exact Array.getElem_ofFn ..
   rw [e1,Nat.zero_add]
   refine ⟨?_,?_⟩
   ·show World.cell? w ⟨blk,j,none⟩ = _
    unfold World.cell?
    have:=henc ⟨j,hj⟩
    rw [List.getElem?_take_of_lt hj,Array.getElem?_toList] at this
    simp only [hb]
    exact this
   ·show World.frozen? w ⟨blk,j,none⟩ = false
    unfold World.frozen?
    simp only [hb]
    simp
  let cf' : _root_.Fin (l.length + 1) → _root_.Fin (l.length + 1) → Int:=fun i j=>cf ((a :: l).get i) ((a :: l).get j)
  have hcmp : CmpLays1 P g us.toArray enc cf' blk 0 d0.size w:=by
   intro mm os dk hdk x y
   have c:=sw_chg enc (m:=mm) (dk:=dk) (os:=os) hb hF wf
   have hd:=hc ((a :: l).get x) ((a :: l).get y) (hl _ (List.get_mem _ _)) (hl _ (List.get_mem _ _)) (sortWorld enc w blk 0 mm dk os) F noNames (enc x :: enc y :: us) (by simp [hul]) (Nat.zero_le _)
    (fun b o hf=>Nat.lt_of_lt_of_le (wf b o hf) c.size) (fun i d u hd hu=>by
     rcases i with _ | _ | i
     ·obtain rfl : _ = d:=by simpa using hd
      obtain rfl : _ = u:=by simpa using hu
      exact ((hfz x).still c).pure (hpur _) _
     ·obtain rfl : _ = d:=by simpa using hd
      obtain rfl : _ = u:=by simpa using hu
      exact ((hfz y).still c).pure (hpur _) _
     ·have hd' : caps[i]? = some d:=by simpa using hd
      exact ((hur i d u hd' (by simpa using hu)).still c).pure (D.purL_iff.1 hcap d (List.mem_of_getElem? hd')) _)
    (fun i d hd=>by simp at hd) (fun _ _=>rfl) (fun i j b hi=>by simp at hi)
   have e : #[enc x,enc y] ++ us.toArray = (enc x :: enc y :: us).toArray:=by simp
   rw [e]
   refine hd.mono ?_
   rintro e w' ⟨v,F1,m1,rfl,c1,_,_,_,hv,_⟩
   have hvI : v = .int .i64 (cf' x y):=hv.v_eq
   rw [hvI]
   exact ⟨rfl,grow_of c1⟩
  have hS:=Any.slices_SortFunc_eq L enc hone cf' (swo_of hO (a :: l) hl) g us.toArray blk 0 cap d0 w (fun args w=>run_callFunc hg args w) hcmp hHolds hlt (by rw [hd0]; have : (a :: l).length = l.length + 1:=rfl; omega)
  rw [hd0] at hS
  refine hS.mono ?_
  rintro e w' ⟨rfl,n,os,hw⟩
  have hpl : pdq (ltOf cf') d0 0 (l.length + 1) (Lib.bitLen (l.length + 1)) true true = placesOf l.length cf':=rfl
  rw [hpl] at hw
  have hps:=placesOf_size hO a l hl
  have hps : (placesOf l.length cf').size = l.length + 1:=hps
  have hsl : sortL cf (a :: l) = (placesOf l.length cf').toList.map (fun i=>(a :: l).get i):=rfl
  generalize placesOf l.length cf' = dd at *
  subst hw
  have c:=sw_chg enc (m:=n) (dk:=dd) (os:=os) hb hF wf
  have hrow:=sw_row enc w blk 0 n dd os hb
  have hT : ∀ b,b = blk ↔ ∃ i,i < [D.row 1 ((a :: l).map fD)].length ∧ m (nb + i) = some (some b):=fun b=>by
   constructor
   ·rintro rfl; exact ⟨0,by simp,hmb⟩
   ·rintro ⟨i,hi,hb'⟩
    obtain rfl : i = 0:=by simpa using hi
    have e : some (some blk) = some (some b):=hmb.symm.trans hb'
    cases e
    rfl
  have hget : ∀ (k : Nat) (hk : k < l.length + 1),(putCells enc 0 dd cur).toList[k]? = some (enc (dd[k]'(by omega))):=fun k hk=>by
   rw [Array.getElem?_toList]
   unfold putCells
   rw [Array.getElem?_mapIdx,Array.getElem?_eq_getElem (by omega),Option.map_some,if_pos ⟨Nat.zero_le _,by omega⟩,Nat.sub_zero,getElem!_pos dd k (by omega)]
  refine ⟨_,F,m,rfl,c.mono (fun b hb=>(hT b).1 hb),fun b o hf=>Nat.lt_of_lt_of_le (wf b o hf) c.size,fun _ _=>rfl,hm0,.tup m [] [] rfl (fun i d u hd=>by simp at hd),fun i d hd=>?_,fun i j b d d' hi hj _ _ h3 h4=>?_,fun i d b hd _ h3=>?_⟩
  ·rcases i with _ | i
   ·obtain rfl : D.row 1 ((sortL cf (a :: l)).map fD) = d:=by simpa using hd
    refine ⟨by intro h; (cases h),.inr ⟨blk,putCells enc 0 dd cur,T,hmb,hrow,by decide,fun e he=>?_,?_,?_,hF⟩⟩
    ·obtain ⟨b,_,rfl⟩:=List.mem_map.1 he
     rw [hcell]; rfl
    ·rw [List.length_map,hsl,List.length_map,Array.length_toList,hps]
     unfold putCells
     simp only [Array.size_mapIdx]
     omega
    ·have hlen2 : (sortL cf (a :: l)).length = l.length + 1:=by rw [hsl,List.length_map,Array.length_toList,hps]
     rw [hflat,List.length_map,hlen2,Nat.mul_one,hsl]
     have hpc : (putCells enc 0 dd cur).toList.length = cur.size:=by unfold putCells; simp
     have hmem : ∀ (k : Nat) (u : Value),((putCells enc 0 dd cur).toList.take (l.length + 1))[k]? = some u → ∃ hk : k < l.length + 1,u = enc (dd[k]'(by omega)):=fun k u hu=>by
      have hk : k < l.length + 1:=by
       have:=(List.getElem?_eq_some_iff.1 hu).1
       rw [List.length_take] at this
       omega
      rw [List.getElem?_take_of_lt hk,hget k hk] at hu
      exact ⟨hk,by simpa using hu.symm⟩
     refine ⟨?_,fun u hu=>?_,fun k d u hd hu=>?_⟩
     ·have h9 : dd.toList.length = l.length + 1:=by simpa using hps
      rw [List.length_take,hpc,List.length_map,List.length_map,h9]
      omega
     ·obtain ⟨k,hk⟩:=List.mem_iff_getElem?.1 hu
      obtain ⟨hk',rfl⟩:=hmem k u hk
      exact hone _
     ·obtain ⟨hk',rfl⟩:=hmem k u hu
      rw [List.getElem?_map,List.getElem?_map,Array.getElem?_toList,Array.getElem?_eq_getElem (by omega)] at hd
      obtain rfl : fD ((a :: l).get (dd[k]'(by omega))) = d:=by simpa using hd
      exact (hfz _).still c
   ·simp at hd
  ·have a1:=(List.getElem?_eq_some_iff.1 hi).1
   have a2:=(List.getElem?_eq_some_iff.1 hj).1
   simp at a1 a2
   omega
  ·have a1:=(List.getElem?_eq_some_iff.1 hd).1
   simp at a1
   subst a1
   exact .inl ⟨0,by simp,h3⟩
end
end Go.Proofs.Ytedmegmhjmabcaa
