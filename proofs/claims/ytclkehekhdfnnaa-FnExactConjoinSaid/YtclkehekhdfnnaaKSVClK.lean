/-
  The copy of an expression, off a stack, its kids' rows trees under keys: the rows on the way, the trees, a row that is done becomes a tree. No condition.
-/
import Derived.Test.YtclkehekhdfnnaaKSVClD
import Derived.Test.YtclkehekhdfnnaaKSVFoldR
import Derived.Test.YtclkehekhdfnnaaKSVCalK
import Derived.Test.YtclkehekhdfnnaaKSVToE
set_option maxHeartbeats 4000000
set_option maxRecDepth 100000
set_option linter.unusedVariables false
set_option linter.unusedSimpArgs false
namespace Go.Proofs.Ytclkehekhdfnnaa
open Go.RowKit
mutual
def nR : E → Nat
 | .mk k c v ks=>nk (.mk k c v ks) + nRL ks
def nRL : List E → Nat
 | []=>0
 | e :: l=>nR e + nRL l
end
theorem nR_eq (e : E) : nR e = nk e + nRL e.ks:=by
 cases e with
 | mk k c v ks=>rw [nR]; rfl
theorem nRL_drop {cs : List E} {i : Nat} {e : E} (h : cs[i]? = some e) : cs.drop i = e :: cs.drop (i + 1):=by
 obtain ⟨hl,rfl⟩:=List.getElem?_eq_some_iff.1 h
 exact List.drop_eq_getElem_cons hl
def krw (b : Nat) : List E → List D
 | []=>[]
 | e :: l=>eK (b + nRL (e :: l) - 1) e :: krw b l
theorem krw_len (b : Nat) : ∀ l : List E,(krw b l).length = l.length
 | []=>rfl
 | e :: l=>by rw [krw,List.length_cons,krw_len b l,List.length_cons]
theorem krw_at (b : Nat) : ∀ {l : List E} {j : Nat} {e : E},l[j]? = some e → (krw b l)[j]? = some (eK (b + nRL (l.drop j) - 1) e)
 | [],j,e,h=>by simp at h
 | x :: l,0,e,h=>by
  obtain rfl : x = e:=by simpa using h
  rfl
 | x :: l,j + 1,e,h=>by rw [krw,List.getElem?_cons_succ,krw_at b (show l[j]? = some e by simpa using h)]; rfl
def rwK (b p : Nat) (cs : List E) : List D:=(cs.take p).map eD ++ krw b (cs.drop p)
theorem rwK_len (b p : Nat) (cs : List E) : (rwK b p cs).length = cs.length:=by unfold rwK; rw [List.length_append,List.length_map,krw_len,List.length_take,List.length_drop]; omega
theorem rwK_all (b : Nat) (cs : List E) : rwK b cs.length cs = cs.map eD:=by unfold rwK; rw [List.take_length,List.drop_length]; show cs.map eD ++ [] = _; rw [List.append_nil]
theorem rwK_at {b i : Nat} {cs : List E} {e : E} (h : cs[i]? = some e) : (rwK b (i + 1) cs)[i]? = some (eD e):=by
 have hl:=(List.getElem?_eq_some_iff.1 h).1
 unfold rwK
 rw [List.getElem?_append_left (by rw [List.length_map,List.length_take]; omega),List.getElem?_map,List.getElem?_take_of_lt (by omega),h]
 rfl
theorem rwK_set {b i : Nat} {cs : List E} {e : E} (h : cs[i]? = some e) : (rwK b (i + 1) cs).set i (eK (b + nRL (cs.drop i) - 1) e) = rwK b i cs:=by
 have hl:=(List.getElem?_eq_some_iff.1 h).1
 have h1 : ((cs.take i).map eD).length = i:=by rw [List.length_map,List.length_take]; omega
 unfold rwK
 rw [take_next h,List.map_append,nRL_drop h,List.append_assoc,List.set_append_right i _ (by rw [h1]; exact Nat.le_refl _),h1,Nat.sub_self]
 rfl
theorem rwK_leaf {b i : Nat} {cs : List E} {e : E} (h : cs[i]? = some e) (h0 : e.ks = []) : (rwK b (i + 1) cs).set i (eD e) = rwK b i cs:=by
 rw [← rwK_set h,eK_leaf h0]
theorem krw_low (b : Nat) : ∀ l : List E,D.lowL (krw b l) = true
 | []=>rfl
 | e :: l=>by rw [krw,D.lowL,eK_low,krw_low b l]; rfl
theorem lowL_app : ∀ {a b : List D},D.lowL a = true → D.lowL b = true → D.lowL (a ++ b) = true
 | [],_,_,h=>h
 | d :: a,b,h1,h2=>by
  rw [D.lowL,Bool.and_eq_true] at h1
  rw [List.cons_append,D.lowL,h1.1,lowL_app h1.2 h2]; rfl
theorem lowL_eD : ∀ l : List E,D.lowL (l.map eD) = true
 | []=>rfl
 | e :: l=>by rw [List.map_cons,D.lowL,eD_eq,lowL_eD l]; rfl
theorem rwK_low (b p : Nat) (cs : List E) : D.lowL (rwK b p cs) = true:=lowL_app (lowL_eD _) (krw_low b _)
theorem rnkL_low (L : List Nat) (l : List D) (h : D.lowL l = true) : D.rnkL L l = l:=by
 have:=rnk_low L (.agg l) h
 rw [D.rnk] at this
 injection this
theorem rwK_rnk (L : List Nat) (b p : Nat) (cs : List E) : D.rnkL L (rwK b p cs) = rwK b p cs:=rnkL_low L _ (rwK_low b p cs)
theorem eK_cells (κ : Nat) (e : E) : (eK κ e).cells = [I e.k,I e.c,Bo e.v.b,I e.v.n,kD κ 5 (e.ks.map eD)]:=rfl
theorem rwK_cells (b p : Nat) (cs : List E) : ∀ d,d ∈ rwK b p cs → d.cells.length = 5:=fun d hd=>by
 unfold rwK at hd
 rcases List.mem_append.1 hd with hd | hd
 ·obtain ⟨e,_,rfl⟩:=List.mem_map.1 hd
  rw [eD_eq]; rfl
 ·obtain ⟨j,hj⟩:=List.mem_iff_getElem?.1 hd
  have hl:=(List.getElem?_eq_some_iff.1 hj).1
  rw [krw_len] at hl
  rw [krw_at b (List.getElem?_eq_getElem hl)] at hj
  obtain rfl:=Option.some.inj hj
  rfl
theorem krw_set_rnk (L : List Nat) (b p i : Nat) (cs : List E) (d : D) : D.rnkL L ((rwK b p cs).set i d) = (rwK b p cs).set i (d.rnk L):=by
 rw [D.rnkL_map,List.map_set,← D.rnkL_map,rwK_rnk]
def bsK : trE.Lv → Nat
 | []=>0
 | x :: rest=>bsK rest + nRL (List.drop (x.2.1 + 1) x.1)
def lvK : Nat → List E → trE.Lv → List (Nat × D)
 | _,_,[]=>[]
 | up,cs,x :: rest=>(nb + 3 + rest.length,.row 5 ((rwK (bsK rest) (x.2.1 + 1) x.1).set x.2.1 (holeE x.2.2 up cs.length))) :: lvK (nb + 3 + rest.length) x.1 rest
def LvK (σ : Env) : Nat → List E → trE.Lv → Prop
 | _,_,[]=>True
 | up,cs,x :: rest=>σ (nb + 3 + rest.length) = .row 5 ((rwK (bsK rest) (x.2.1 + 1) x.1).set x.2.1 (holeE x.2.2 up cs.length)) ∧ LvK σ (nb + 3 + rest.length) x.1 rest
def WfK : List E → trE.Lv → Prop
 | _,[]=>True
 | cs,x :: rest=>((x.1 : List E)[x.2.1]? = some x.2.2 ∧ E.ks x.2.2 = cs ∧ cs ≠ []) ∧ WfK x.1 rest
theorem LvK.congr {σ τ : Env} : ∀ (lv : trE.Lv) (up : Nat) (cs : List E),(∀ r,r < lv.length → τ (nb + 3 + r) = σ (nb + 3 + r)) → LvK σ up cs lv → LvK τ up cs lv
 | [],_,_,_,_=>trivial
 | x :: rest,up,cs,h,hok=>⟨(h rest.length (by simp)).trans hok.1,LvK.congr rest _ _ (fun r hr=>h r (by rw [List.length_cons]; omega)) hok.2⟩
theorem holeE_rnk (e : E) (g n : Nat) (L : List Nat) (g' : Nat) (h : nameOf L g = some g') : (holeE e g n).rnk L = holeE e g' n:=by
 unfold holeE
 simp only [D.rnk,D.rnkL,h]
theorem agrK1_slot {σ : Env} {L : List Nat} {t : Nat} {d : D} (ht : t < nb) (h : σ t = d.rnk L) : agrK1 σ L (t,d):=by
 unfold agrK1
 rw [if_pos ht]
 exact h
theorem agrK1_name {σ : Env} {L : List Nat} {i g : Nat} {d : D} (hL : L[i]? = some g) (hd : d.nmd = true) (h : σ g = d.rnk L) : agrK1 σ L (nb + i,d):=by
 unfold agrK1
 rw [if_neg (by show ¬ nb + i < nb; omega)]
 show match L[nb + i - nb]? with
  | some g=>d.nmd = true ∧ σ g = d.rnk L
  | none=>False
 rw [show nb + i - nb = i by omega,hL]
 exact ⟨hd,h⟩
theorem agrK1_at {σ : Env} {L : List Nat} {i g n : Nat} {d : D} (hn : n = nb + i) (hL : L[i]? = some g) (hd : d.nmd = true) (h : σ g = d.rnk L) : agrK1 σ L (n,d):=by
 subst hn
 exact agrK1_name hL hd h
theorem agrK_append {σ : Env} {L : List Nat} : ∀ {a b : List (Nat × D)},agrK σ L a → agrK σ L b → agrK σ L (a ++ b)
 | [],_,_,h=>h
 | _ :: a,_,h1,h2=>⟨h1.1,agrK_append h1.2 h2⟩
theorem agrK_lv {σ : Env} {L : List Nat} : ∀ (lv : trE.Lv) (up up' : Nat) (cs : List E),(∀ r,r < lv.length → L[3 + r]? = some (nb + 3 + r)) → nameOf L up' = some up → LvK σ up cs lv → agrK σ L (lvK up' cs lv)
 | [],_,_,_,_,_,_=>trivial
 | x :: rest,up,up',cs,h,hu,hok=>by
  have h1:=h rest.length (by simp)
  refine ⟨agrK1_at (i:=3 + rest.length) (g:=nb + 3 + rest.length) (by omega) h1 rfl ?_,agrK_lv rest _ _ _ (fun r hr=>h r (by rw [List.length_cons]; omega)) (by rw [show nb + 3 + rest.length = nb + (3 + rest.length) by omega,nameOf_at,h1]; congr 1; omega) hok.2⟩
  rw [hok.1,D.rnk]
  exact (congrArg (D.row 5) ((krw_set_rnk L (bsK rest) (x.2.1 + 1) x.2.1 x.1 (holeE x.2.2 up' cs.length)).trans (congrArg (fun d=>(rwK (bsK rest) (x.2.1 + 1) x.1).set x.2.1 d) (holeE_rnk _ _ _ _ _ hu)))).symm
theorem ofL_lvK : ∀ (lv : trE.Lv) (up : Nat) (cs : List E) (c : Nat),3 + lv.length ≤ c → (∀ t,t < nb → ofL c (lvK up cs lv) t = .any) ∧ (∀ g,nb + c ≤ g → ofL c (lvK up cs lv) g = .free) ∧ LvK (ofL c (lvK up cs lv)) up cs lv
 | [],up,cs,c,hc=>by
  refine ⟨fun t ht=>?_,fun g hg=>?_,trivial⟩
  ·show base c t = _; unfold base; rw [if_pos ht]
  ·show base c g = _; unfold base; rw [if_neg (by omega),if_neg (by omega)]
 | x :: rest,up,cs,c,hc=>by
  rw [List.length_cons] at hc
  obtain ⟨h1,h2,h4⟩:=ofL_lvK rest (nb + 3 + rest.length) x.1 c (by omega)
  refine ⟨fun t ht=>?_,fun g hg=>?_,?_,?_⟩
  ·rw [lvK,ofL,Env.set_ne _ _ _ _ (by show ¬ t = nb + 3 + rest.length; omega)]; exact h1 t ht
  ·rw [lvK,ofL,Env.set_ne _ _ _ _ (by show ¬ g = nb + 3 + rest.length; omega)]; exact h2 g hg
  ·rw [lvK,ofL,Env.set_same]
  ·rw [lvK,ofL]
   exact LvK.congr rest _ _ (fun r hr=>Env.set_ne _ _ _ _ (by show ¬ nb + 3 + r = nb + 3 + rest.length; omega)) h4
theorem er_rnk {L : List Nat} {g g' : Nat} (h : nameOf L g = some g') (i : Nat) : D.rnkL L (trE.er g i) = trE.er g' i:=by
 unfold Tr.er
 rw [D.rnkL_map,List.map_map]
 refine List.map_congr_left fun j _=>?_
 show (D.eref g trE.s j 0).rnk L = _
 rw [D.rnk,h]
theorem rnkL_append (L : List Nat) (a b : List D) : D.rnkL L (a ++ b) = D.rnkL L a ++ D.rnkL L b:=by
 rw [D.rnkL_map,D.rnkL_map,D.rnkL_map,List.map_append]
theorem pend_rnk {L : List Nat} : ∀ lv : trE.Lv,(∀ r,r < lv.length → L[3 + r]? = some (nb + 3 + r)) → D.rnkL L (trE.pend lv) = trE.pend lv
 | [],_=>rfl
 | x :: rest,h=>by
  have h1:=h rest.length (by simp)
  rw [Tr.pend,rnkL_append,pend_rnk rest (fun r hr=>h r (by rw [List.length_cons]; omega)),er_rnk (g:=nb + 3 + rest.length) (g':=nb + 3 + rest.length) (by rw [show nb + 3 + rest.length = nb + (3 + rest.length) by omega,nameOf_at,h1]; congr 1; omega)]
def itQ (b : Nat) : List E → List It
 | []=>[]
 | e :: l=>⟨b + nRL (e :: l) - 1,5,e.ks.map eD⟩ :: itQ b l
def itsLv : trE.Lv → List It
 | []=>[]
 | x :: rest=>itQ (bsK rest) (List.drop (x.2.1 + 1) x.1) ++ itsLv rest
theorem itQ_lt (b : Nat) : ∀ (l : List E) (it : It),it ∈ itQ b l → it.es ≠ [] → it.κ < b + nRL l
 | [],it,h,_=>by cases h
 | e :: l,it,h,hne=>by
  rw [itQ] at h
  rcases List.mem_cons.1 h with rfl | h
  ·have h0 : e.ks ≠ []:=fun h9=>hne (by show e.ks.map eD = []; rw [h9]; rfl)
   have h1 : nk e = 1:=by unfold nk; rw [if_neg h0]
   have h2:=nR_eq e
   show b + nRL (e :: l) - 1 < b + nRL (e :: l)
   rw [nRL]
   omega
  ·have:=itQ_lt b l it h hne
   rw [nRL]
   omega
theorem itsLv_lt : ∀ (lv : trE.Lv) (it : It),it ∈ itsLv lv → it.es ≠ [] → it.κ < bsK lv
 | [],it,h,_=>by cases h
 | x :: rest,it,h,hne=>by
  rw [itsLv] at h
  rw [bsK]
  rcases List.mem_append.1 h with h | h
  ·exact itQ_lt _ _ it h hne
  ·have:=itsLv_lt rest it h hne
   omega
def stepK : trE.Lv × List E × Nat → trE.Lv × List E × Nat
 | (lv,cs,i + 1)=>match cs[i]? with
  | some e=>if e.ks = [] then (lv,cs,i) else ((cs,i,e) :: lv,e.ks,e.ks.length)
  | none=>([],[],0)
 | (x :: rest,cs,0)=>(rest,x.1,x.2.1)
 | ([],cs,0)=>([],cs,0)
def stK (e0 : E) : Nat → trE.Lv × List E × Nat
 | 0=>([],[e0],1)
 | t + 1=>stepK (stK e0 t)
def cleF (e0 : E) : Fm where
 top k:=match k with | 0=>nRL [e0] | t + 1=>bsK (stK e0 t).1 + nRL (List.drop (stK e0 t).2.2 (stK e0 t).2.1)
 its k:=match k with | 0=>itQ 0 [e0] | t + 1=>itQ (bsK (stK e0 t).1) (List.drop (stK e0 t).2.2 (stK e0 t).2.1) ++ itsLv (stK e0 t).1
theorem cleF_at {e0 : E} {t p : Nat} {lv : trE.Lv} {cs : List E} (h : stK e0 t = (lv,cs,p)) : (cleF e0).top (t + 1) = bsK lv + nRL (cs.drop p) ∧ (cleF e0).its (t + 1) = itQ (bsK lv) (cs.drop p) ++ itsLv lv:=by
 constructor
 ·show bsK (stK e0 t).1 + nRL (List.drop (stK e0 t).2.2 (stK e0 t).2.1) = _
  rw [h]
 ·show itQ (bsK (stK e0 t).1) (List.drop (stK e0 t).2.2 (stK e0 t).2.1) ++ itsLv (stK e0 t).1 = _
  rw [h]
theorem itsC_K (key : Nat → Nat) (b : Nat) : ∀ (l : List E) (a : Nat),(∀ i,i < l.length → key (5 * (a + i) + 4) = b + nRL (l.drop i) - 1) → itsC key (5 * a) (D.flat (l.map eD)) = itQ b l
 | [],a,_=>rfl
 | e :: l,a,h=>by
  have ih:=itsC_K key b l (a + 1) (fun i hi=>by
   have:=h (i + 1) (by rw [List.length_cons]; omega)
   rw [show a + (i + 1) = a + 1 + i by omega] at this
   exact this)
  have h0:=h 0 (by rw [List.length_cons]; omega)
  rw [flat_eD,List.flatMap_cons,← flat_eD]
  show itsC key (5 * a) (I e.k :: I e.c :: Bo e.v.b :: I e.v.n :: .sl 5 (e.ks.map eD) :: D.flat (l.map eD)) = _
  simp only [itsC,itC,List.nil_append,List.cons_append]
  rw [show 5 * a + 1 + 1 + 1 + 1 = 5 * (a + 0) + 4 by omega,h0,show 5 * (a + 0) + 4 + 1 = 5 * (a + 1) by omega,ih]
  rfl
theorem eDs_cells (l : List E) : ∀ d,d ∈ l.map eD → d.cells.length = 5:=fun d hd=>by
 obtain ⟨e,_,rfl⟩:=List.mem_map.1 hd
 rw [eD_eq]; rfl
theorem krw_cells (b : Nat) (cs : List E) (j : Nat) (d : D) (h : (D.flat (cs.map eD))[j]? = some d) : treC d = true ∧ (D.flat (rwK b 0 cs))[j]? = some (kC (b + nRL (cs.drop (j / 5)) - 1) d):=by
 have hl : j < cs.length * 5:=by
  have:=(List.getElem?_eq_some_iff.1 h).1
  rwa [flat_len (eDs_cells cs),List.length_map] at this
 obtain ⟨a,c,ha,hc,rfl⟩:=div_split hl
 obtain ⟨e,he⟩ : ∃ e,cs[a]? = some e:=⟨_,List.getElem?_eq_getElem ha⟩
 rw [flat_get (eDs_cells cs) a c hc,List.getElem?_map,he] at h
 rw [flat_get (rwK_cells b 0 cs) a c hc,show (a * 5 + c) / 5 = a by omega]
 have h1 : (rwK b 0 cs)[a]? = some (eK (b + nRL (cs.drop a) - 1) e):=krw_at b he
 rw [h1]
 have h : (eD e).cells[c]? = some d:=h
 show treC d = true ∧ (eK (b + nRL (cs.drop a) - 1) e).cells[c]? = _
 rw [eD_eq] at h
 rw [eK_cells]
 match c,hc,h with
 | 0,_,h=>obtain rfl:=Option.some.inj h; exact ⟨rfl,rfl⟩
 | 1,_,h=>obtain rfl:=Option.some.inj h; exact ⟨rfl,rfl⟩
 | 2,_,h=>obtain rfl:=Option.some.inj h; exact ⟨rfl,rfl⟩
 | 3,_,h=>obtain rfl:=Option.some.inj h; exact ⟨rfl,rfl⟩
 | 4,_,h=>obtain rfl:=Option.some.inj h; exact ⟨rfl,rfl⟩
end Go.Proofs.Ytclkehekhdfnnaa
