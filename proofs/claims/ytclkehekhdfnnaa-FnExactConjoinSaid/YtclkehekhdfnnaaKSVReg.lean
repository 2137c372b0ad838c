/-
  Calls that are handed trees of one's own and answer such: what they say, how they are made, how they are proved. No condition.
-/
import Derived.Test.YtclkehekhdfnnaaKSVSep
import Derived.Test.YtclkehekhdfnnaaJSVInt
set_option maxHeartbeats 4000000
set_option maxRecDepth 100000
set_option linter.unusedVariables false
set_option linter.unusedSimpArgs false
namespace Go.Proofs.Ytclkehekhdfnnaa
open Go.RowKit
structure Fm where
 top : Nat → Nat
 its : Nat → List It
def famOf (f : Fm) (p : Nat) (m0 : Names) : Nat → World → Cells → Names → Blocks → Prop:=fun k w F m B=>
 OwnL (f.its k) w m B ∧ (∀ b o,B b → ¬ F b o) ∧ (∀ κ,f.top k ≤ κ → κ < nb → m κ = none) ∧ ∀ κ,κ < p → m κ = m0 κ
def RCalls (P : Program) (f : FuncId) (pre : List It) (ds : List D) (post : List It) (top' : Nat) (r : D) : Prop:=
 ∀ (w : World) (F : Cells) (m : Names) (B : Blocks) (xs : List Value),(∀ b o,F b o → b < w.heap.size) → OwnL pre w m B → (∀ b o,B b → ¬ F b o) → (∀ κ,pre.length ≤ κ → m κ = none) → xs.length = ds.length →
  (∀ (i : Nat) (d : D) (x : Value),ds[i]? = some d → xs[i]? = some x → Fz w F m d x) →
  Calls P f xs.toArray w (fun e w'=>∃ x F' m' B',e = .returned x ∧ Chg w F B w' F' ∧ (∀ b o,F' b o → b < w'.heap.size) ∧ (∀ b,B' b → B b ∨ w.heap.size ≤ b) ∧ (∀ b o,B' b → ¬ F' b o) ∧
   (∀ κ,κ < pre.length → m' κ = m κ) ∧ (∀ κ,top' ≤ κ → m' κ = none) ∧ Fz w' F' m' r x ∧ OwnL post w' m' B')
mutual
def D.low : D → Bool
 | .kow _ _ _=>true
 | .agg cs=>D.lowL cs
 | .tup cs=>D.lowL cs
 | d=>d.pur
def D.lowL : List D → Bool
 | []=>true
 | d :: l=>D.low d && D.lowL l
end
theorem D.lowL_iff : ∀ {l : List D},D.lowL l = true ↔ ∀ d,d ∈ l → d.low = true
 | []=>by simp [D.lowL]
 | d :: l=>by rw [D.lowL,Bool.and_eq_true,D.lowL_iff (l:=l)]; simp
mutual
def D.rk (ρ : Nat → Nat) : D → D
 | .kow κ s n=>.kow (ρ κ) s n
 | .agg cs=>.agg (D.rkL ρ cs)
 | .tup cs=>.tup (D.rkL ρ cs)
 | d=>d
def D.rkL (ρ : Nat → Nat) : List D → List D
 | []=>[]
 | d :: l=>D.rk ρ d :: D.rkL ρ l
end
theorem D.rkL_map (ρ : Nat → Nat) : ∀ l : List D,D.rkL ρ l = l.map (D.rk ρ)
 | []=>rfl
 | d :: l=>by rw [D.rkL,D.rkL_map ρ l]; rfl
theorem rk_pur (ρ : Nat → Nat) : ∀ (d : D),d.pur = true → d.rk ρ = d
 | .agg cs,h=>by rw [D.rk,rkL_pur ρ cs h]
 | .tup cs,h=>by rw [D.rk,rkL_pur ρ cs h]
 | .kow _ _ _,h=>by cases h
 | .any,_=>rfl
 | .v _,_=>rfl
 | .sl _ _,_=>rfl
 | .nul,_=>rfl
 | .ifc _ _,_=>rfl
 | .bnd _ _ _,_=>rfl
 | .mv _ _,_=>rfl
 | .fn _ _,_=>rfl
 | .ptr _,_=>rfl
 | .ref _ _,h=>by cases h
 | .own _ _ _,h=>by cases h
 | .owo _ _ _ _,h=>by cases h
 | .eref _ _ _ _,h=>by cases h
 | .obj _,h=>by cases h
 | .row _ _,h=>by cases h
 | .free,h=>by cases h
 | .gho _ _ _ _,h=>by cases h
 | .fam _,h=>by cases h
  where rkL_pur (ρ : Nat → Nat) : ∀ (l : List D),D.purL l = true → D.rkL ρ l = l
 | [],_=>rfl
 | d :: l,h=>by
  rw [D.purL,Bool.and_eq_true] at h
  rw [D.rkL,rk_pur ρ d h.1,rkL_pur ρ l h.2]
theorem Fz.rk_in {w : World} {F : Cells} {m mc : Names} {ρ : Nat → Nat} (hm : ∀ κ q,ρ κ < nb → m (ρ κ) = some q → κ < nb ∧ mc κ = some q) : ∀ (d : D) (x : Value),d.low = true → Fz w F m (d.rk ρ) x → Fz w F mc d x
 | .kow κ s n,x,_,h=>by
  rw [D.rk] at h
  cases h with
  | kow _ _ _ _ b cap cur T hκ hg hs hle hb hcap=>exact .kow mc κ s n b cap cur T (hm κ _ hκ hg).1 (hm κ _ hκ hg).2 hs hle hb hcap
 | .agg cs,x,hl,h=>by
  rw [D.rk,D.rkL_map] at h
  cases h with
  | agg _ _ us hlen h1 hr=>
   rw [List.length_map] at hlen
   exact .agg mc cs us hlen h1 (fun i d u hd hu=>Fz.rk_in hm d u (D.lowL_iff.1 hl d (List.mem_of_getElem? hd)) (hr i _ u (by rw [List.getElem?_map,hd]; rfl) hu))
 | .tup cs,x,hl,h=>by
  rw [D.rk,D.rkL_map] at h
  cases h with
  | tup _ _ us hlen hr=>
   rw [List.length_map] at hlen
   exact .tup mc cs us hlen (fun i d u hd hu=>Fz.rk_in hm d u (D.lowL_iff.1 hl d (List.mem_of_getElem? hd)) (hr i _ u (by rw [List.getElem?_map,hd]; rfl) hu))
 | .any,x,_,h=>.any mc x
 | .v y,x,hl,h=>h.pure rfl mc
 | .sl s es,x,hl,h=>h.pure rfl mc
 | .nul,x,hl,h=>h.pure rfl mc
 | .ifc t e,x,hl,h=>h.pure hl mc
 | .bnd t n e,x,hl,h=>h.pure hl mc
 | .mv f e,x,hl,h=>h.pure hl mc
 | .fn f cs,x,hl,h=>h.pure hl mc
 | .ptr cs,x,hl,h=>h.pure rfl mc
 | .ref _ _,_,hl,_=>by cases hl
 | .own _ _ _,_,hl,_=>by cases hl
 | .owo _ _ _ _,_,hl,_=>by cases hl
 | .eref _ _ _ _,_,hl,_=>by cases hl
 | .obj _,_,hl,_=>by cases hl
 | .row _ _,_,hl,_=>by cases hl
 | .free,_,hl,_=>by cases hl
 | .gho _ _ _ _,_,hl,_=>by cases hl
 | .fam _,_,hl,_=>by cases hl
termination_by d=>SizeOf.sizeOf d
decreasing_by
 all_goals (have:=List.sizeOf_lt_of_mem (List.mem_of_getElem? hd); simp; omega)
theorem Fz.rk_out {w : World} {F : Cells} {mc : Names} {d : D} {x : Value} (h : Fz w F mc d x) : ∀ {m : Names} {ρ : Nat → Nat},(∀ κ p,κ < nb → mc κ = some p → m (ρ κ) = some p ∧ ρ κ < nb) → d.low = true → Fz w F m (d.rk ρ) x:=by
 induction h with
 | any m x=>intro m' ρ _ _; exact .any m' x
 | v m x=>intro m' ρ _ _; exact .v m' x
 | sl0 m s a cap=>intro m' ρ _ _; exact .sl0 m' s a cap
 | sl m s es b off cap u hs hle hlen hu hr ih=>intro m' ρ _ _; exact .sl m' s es b off cap u hs hle hlen hu hr
 | nul m a=>intro m' ρ _ _; exact .nul m' a
 | agg m cs us hl h1 hr ih=>
  intro m' ρ hm hp
  rw [D.rk,D.rkL_map]
  refine .agg m' _ us (by rw [List.length_map]; exact hl) h1 (fun i d u hd hu=>?_)
  rw [List.getElem?_map] at hd
  cases hc : cs[i]? with
  | none=>rw [hc] at hd; cases hd
  | some e=>
   rw [hc] at hd
   obtain rfl : e.rk ρ = d:=by simpa using hd
   exact ih i e u hc hu hm (D.lowL_iff.1 hp e (List.mem_of_getElem? hc))
 | tup m cs us hl hr ih=>
  intro m' ρ hm hp
  rw [D.rk,D.rkL_map]
  refine .tup m' _ us (by rw [List.length_map]; exact hl) (fun i d u hd hu=>?_)
  rw [List.getElem?_map] at hd
  cases hc : cs[i]? with
  | none=>rw [hc] at hd; cases hd
  | some e=>
   rw [hc] at hd
   obtain rfl : e.rk ρ = d:=by simpa using hd
   exact ih i e u hc hu hm (D.lowL_iff.1 hp e (List.mem_of_getElem? hc))
 | ifc m t d x h ih=>intro m' ρ _ hp; exact (Fz.ifc m t d x h).pure hp m'
 | bnd m t name d x h ih=>intro m' ρ _ hp; exact (Fz.bnd m t name d x h).pure hp m'
 | mv m f d x h ih=>intro m' ρ _ hp; exact (Fz.mv m f d x h).pure hp m'
 | fn m f cs us hl hr ih=>intro m' ρ _ hp; exact (Fz.fn m f cs us hl hr).pure hp m'
 | ptr m cs b off u hu hr ih=>intro m' ρ _ _; exact .ptr m' cs b off u hu hr
 | kow m κ s n b cap cur U hκ hg hs hle hb hcap=>intro m' ρ hm _; exact .kow m' (ρ κ) s n b cap cur U (hm κ _ hκ hg).2 (hm κ _ hκ hg).1 hs hle hb hcap
 | ref m g o b hg=>intro _ _ _ hp; cases hp
 | own m g s n b cap cur U hg hs hle hb hcap=>intro _ _ _ hp; cases hp
 | own0 m g s a hg=>intro _ _ _ hp; cases hp
 | owo m g s o n b cap cur U hg hs hle hb hcap=>intro _ _ _ hp; cases hp
 | owo0 m g s o a cap p hg=>intro _ _ _ hp; cases hp
 | eref m g s i o b hg=>intro _ _ _ hp; cases hp
 | gho m l L e k x=>intro _ _ _ hp; cases hp
def It.rk (ρ : Nat → Nat) (it : It) : It:=⟨ρ it.κ,it.s,it.es⟩
theorem treeAt.rk_in {it : It} {ρ : Nat → Nat} {w : World} {m mc : Names} {B : Blocks} (h : treeAt (it.rk ρ) w m B) (hk : it.es ≠ [] → it.κ < nb ∧ mc it.κ = m (ρ it.κ)) : treeAt it w mc B:=by
 rcases h with h | ⟨h0,_,b,cap,hg,hs⟩
 ·exact .inl h
 ·exact .inr ⟨h0,(hk h0).1,b,cap,(hk h0).2.trans hg,hs⟩
theorem treeAt.rk_out {it : It} {ρ : Nat → Nat} {w : World} {m mc : Names} {B : Blocks} (h : treeAt it w mc B) (hk : it.es ≠ [] → ρ it.κ < nb ∧ m (ρ it.κ) = mc it.κ) : treeAt (it.rk ρ) w m B:=by
 rcases h with h | ⟨h0,_,b,cap,hg,hs⟩
 ·exact .inl h
 ·exact .inr ⟨h0,(hk h0).1,b,cap,(hk h0).2.trans hg,hs⟩
theorem OwnL.rk_in {ρ : Nat → Nat} {w : World} {m mc : Names} : ∀ {l : List It} {B : Blocks},OwnL (l.map (It.rk ρ)) w m B → (∀ it,it ∈ l → it.es ≠ [] → it.κ < nb ∧ mc it.κ = m (ρ it.κ)) → OwnL l w mc B
 | [],_,h,_=>h
 | it :: l,_,⟨B1,B2,h1,h2,h3,h4⟩,hk=>⟨B1,B2,h1.rk_in (hk it (List.mem_cons_self ..)),OwnL.rk_in h2 (fun x hx=>hk x (List.mem_cons_of_mem _ hx)),h3,h4⟩
theorem OwnL.rk_out {ρ : Nat → Nat} {w : World} {m mc : Names} : ∀ {l : List It} {B : Blocks},OwnL l w mc B → (∀ it,it ∈ l → it.es ≠ [] → ρ it.κ < nb ∧ m (ρ it.κ) = mc it.κ) → OwnL (l.map (It.rk ρ)) w m B
 | [],_,h,_=>h
 | it :: l,_,⟨B1,B2,h1,h2,h3,h4⟩,hk=>⟨B1,B2,h1.rk_out (hk it (List.mem_cons_self ..)),OwnL.rk_out h2 (fun x hx=>hk x (List.mem_cons_of_mem _ hx)),h3,h4⟩
def keyR (K : List Nat) (t κ : Nat) : Nat:=if κ < K.length then K.getD κ 0 else t + (κ - K.length)
theorem fam_at {G : Ctx} {σ : Env} {w : World} {F : Cells} {m : Names} {fm : Fm} {p k : Nat} {m0 : Names} (hE : Ext G σ w F m) (hgh : σ gh = .gho 0 [.fam (famOf fm p m0)] 0 k) :
  ∃ Y B,G.Y = some Y ∧ ExtB G σ w F m B ∧ Y.J = famOf fm p m0 ∧ Y.lo = 0 ∧ Y.L = [.fam (famOf fm p m0)] ∧ Y.l = 0 ∧ Y.stop = 0 ∧ famOf fm p m0 k w F m B:=by
 obtain ⟨B,hB⟩:=hE
 cases hY : G.Y with
 | none=>exact absurd hgh ((hB.no hY).1 _ _ _ _)
 | some Y=>
  obtain ⟨_,⟨k0,hJ,hkk⟩,_⟩:=hB.yes Y hY
  obtain ⟨e1,e2,e3,rfl⟩:=hkk _ _ _ _ hgh
  obtain ⟨hj,hlo⟩:=Y.fam _ e2.symm
  exact ⟨Y,B,rfl,hB,hj,hlo,e2.symm,e1.symm,e3.symm,by rw [← hj]; exact hJ⟩
section
variable {P : Program} {G : Ctx} {σ : Env} {B : List Nat} {l : List GI} {acc : Option (List Ent)} {N : Env → Prop} {rd wr : List Nat}
theorem gh_ne {g : Nat} (hg : nb ≤ g) : ¬ g = gh:=fun e=>by have h3 : (1000000 : Nat) ≤ g:=hg; have h4 : g = 999999:=e; omega
theorem in_rcall {o : Oper} (hP : G.okP P) {d f k k' p top' : Nat} {fm : Fm} {m0 : Names} {pre post rest : List It} {K : List Nat} {ds : List D} {r : D} {xs : List Opd} {ops : Array Operand} {ts : Array TypeId} (ho : o.op = .call { callee:=.value (.func f),args:=ops,argTypes:=ts }) (hf : enters P f = true) (ha : ops.toList.mapM opd = some xs)
  (hdst : o.dst = some d) (hd : d < G.n) (hgh : σ gh = .gho 0 [.fam (famOf fm p m0)] 0 k) (hc : RCalls P f pre ds post top' r) (hK : K.length = pre.length) (hKt : ∀ κ,κ ∈ K → κ < fm.top k) (hpt : p ≤ fm.top k)
  (hp1 : (fm.its k).Perm (pre.map (It.rk (keyR K (fm.top k))) ++ rest)) (hp2 : (fm.its k').Perm (post.map (It.rk (keyR K (fm.top k))) ++ rest)) (hpk : ∀ it,it ∈ pre → it.es ≠ [] → it.κ < K.length) (hpo : ∀ it,it ∈ post → it.es ≠ [] → it.κ < top')
  (hr1 : ∀ it,it ∈ rest → it.es ≠ [] → it.κ < fm.top k) (ht : K.length ≤ top') (htop : fm.top k' = fm.top k + (top' - K.length)) (hnb : fm.top k' ≤ 900000) (hKs : K.length ≤ 900000)
  (hds : xs.map (Opd.val σ) = ds.map (D.rk (keyR K (fm.top k)))) (hl1 : D.lowL ds = true) (hl2 : r.low = true) :
  OpOK P G o ⟨xs.flatMap Opd.rd ++ [gh],[gh,d]⟩ σ [(gh,.gho 0 [.fam (famOf fm p m0)] 0 k'),(d,r.rk (keyR K (fm.top k)))] where
 wr q hq:=by
  rcases List.mem_cons.1 hq with rfl | hq
  ·exact List.mem_cons_self ..
  ·obtain rfl:=List.mem_singleton.1 hq; exact List.mem_cons_of_mem _ (List.mem_singleton.2 rfl)
 run τ a w Kk Q hag hR hKk:=by
  intro n
  obtain ⟨hdf,F,m,hR⟩:=hR
  have hag2 : ∀ t,t ∈ xs.flatMap Opd.rd → τ t = σ t:=fun t ht=>hag t (List.mem_append_left _ ht)
  have hτ : τ gh = .gho 0 [.fam (famOf fm p m0)] 0 k:=(hag gh (List.mem_append_right _ (List.mem_singleton.2 rfl))).trans hgh
  obtain ⟨h1,h2⟩:=opds_fz hR ha hag2
  obtain ⟨Y,B,hY,hE,hj,hY0,hYL,hYl,hYs,hOwn,hBF,hfree,hm0⟩:=fam_at hR.ext hτ
  have hn1 : nb = 1000000:=rfl
  obtain ⟨t,htt⟩ : ∃ t,t = fm.top k:=⟨_,rfl⟩
  rw [← htt] at hKt hpt hp1 hp2 hr1 htop hds hfree hKk
  -- the trees that are handed over,and the others
  obtain ⟨B1,B2,hO1,hO2,hdj,hBB⟩:=(hOwn.perm hp1).split
  let mc : Names:=fun κ=>if κ < K.length then m (K.getD κ 0) else none
  have hKg : ∀ κ,κ < K.length → K.getD κ 0 < t:=fun κ hκ=>hKt _ (by rw [List.getD_eq_getElem?_getD,List.getElem?_eq_getElem hκ]; exact List.getElem_mem ..)
  have hmcl : ∀ κ,κ < K.length → mc κ = m (keyR K t κ):=fun κ hκ=>by
   show (if κ < K.length then m (K.getD κ 0) else none) = _
   unfold keyR
   rw [if_pos hκ,if_pos hκ]
  have hmch : ∀ κ,K.length ≤ κ → mc κ = none:=fun κ hκ=>if_neg (by omega)
  have hkr : ∀ κ,K.length ≤ κ → keyR K t κ = t + (κ - K.length):=fun κ hκ=>by unfold keyR; exact if_neg (by omega)
  have hO1c : OwnL pre w mc B1:=hO1.rk_in (fun it hit hne=>⟨by have:=hpk it hit hne; omega,hmcl _ (hpk it hit hne)⟩)
  have hargs : (ops.toList.map a.eval).length = ds.length ∧ ∀ (i : Nat) (d : D) (x : Value),ds[i]? = some d → (ops.toList.map a.eval)[i]? = some x → Fz w F mc d x:=by
   refine ⟨by rw [h1,hds,List.length_map],fun i d x hd hx=>?_⟩
   refine Fz.rk_in (m:=m) (ρ:=keyR K t) (fun κ q hκ hq=>?_) d x (D.lowL_iff.1 hl1 d (List.mem_of_getElem? hd)) (h2 i _ x (by rw [hds,List.getElem?_map,hd]; rfl) hx)
   by_cases hκl : κ < K.length
   ·exact ⟨by omega,(hmcl κ hκl).trans hq⟩
   ·rw [hkr κ (by omega)] at hκ hq
    rw [hfree _ (by omega) hκ] at hq
    cases hq
  have hcc:=hc w F mc B1 (ops.toList.map a.eval) hR.wf hO1c (fun b o hb=>hBF b o ((hBB b).2 (.inl hb))) (fun κ hκ=>hmch κ (by omega)) hargs.1 hargs.2
  have e1 : (ops.toList.map a.eval).toArray = ops.map a.eval:=by apply Array.ext'; simp
  have hrn : (execOp a.eval o).run P w = .ok (.enter f (ops.toList.map a.eval).toArray) w:=by
   have hc:=run_callFunc (P:=P) hf (ops.map a.eval) w
   rw [e1]
   simp [execOp,ho,resolve,Act.eval,Deferred.ofValue,invoke]
   exact hc
  have hs:=sem_at hrn (fun d e=>by cases e) G.fen
  refine ⟨fun _ _=>trivial,?_⟩
  rw [hs,hrn,Oper.uponIn_enter]
  refine ⟨fun h=>(by cases h),?_⟩
  have hcc' : CallsIn Fence.wide (n - 1) P f (ops.toList.map a.eval).toArray w _:=callsIn_wide.2 hcc
  refine CallsIn.mono (F:=G.fen) (show CallsIn G.fen (n - 1) P f (ops.toList.map a.eval).toArray w _ from hcc') ?_
  rintro en w' ⟨v,F',m1,B1',rfl,c,wf',hB',hBF',hm1,hm1n,hv,hO'⟩
  -- the names behind the call
  let m' : Names:=fun g=>if t ≤ g ∧ g < t + (top' - K.length) then m1 (g - t + K.length) else m g
  have hmm : ∀ g q,m g = some q → m' g = some q:=fun g q hq=>by
   show (if t ≤ g ∧ g < t + (top' - K.length) then m1 (g - t + K.length) else m g) = some q
   by_cases hg : t ≤ g ∧ g < t + (top' - K.length)
   ·rw [hfree g hg.1 (by omega)] at hq; cases hq
   ·rw [if_neg hg]; exact hq
  have hmo : ∀ g,(g < t ∨ fm.top k' ≤ g) → m' g = m g:=fun g hg=>if_neg (by omega)
  have hmk : ∀ κ,κ < top' → m' (keyR K t κ) = m1 κ:=fun κ hκ=>by
   by_cases hκl : κ < K.length
   ·have e : keyR K t κ = K.getD κ 0:=by unfold keyR; exact if_pos hκl
    rw [hm1 κ (by omega),hmcl κ hκl]
    exact hmo _ (.inl (by rw [e]; exact hKg κ hκl))
   ·rw [hkr κ (by omega)]
    show (if t ≤ t + (κ - K.length) ∧ t + (κ - K.length) < t + (top' - K.length) then m1 (t + (κ - K.length) - t + K.length) else m _) = _
    rw [if_pos ⟨by omega,by omega⟩,show t + (κ - K.length) - t + K.length = κ by omega]
  have hB1 : ∀ b,B1 b → B b:=fun b hb=>(hBB b).2 (.inl hb)
  obtain ⟨hlo,hJk,hdis⟩:=hE.yes Y hY
  have hlt : ∀ b,B b → b < w.heap.size:=fun b hb=>by
   obtain ⟨cur,T,hrow⟩:=hOwn.row b hb
   exact (Array.getElem?_eq_some_iff.1 hrow).1
  have hO2' : OwnL rest w' m' B2:=hO2.stable (fun b hb=>c.block b (hlt b ((hBB b).2 (.inr hb))) (fun h9=>hdj b h9 hb)) (fun it hit hne=>hmo _ (.inl (hr1 it hit hne)))
  have hO1' : OwnL (post.map (It.rk (keyR K t))) w' m' B1':=hO'.rk_out (fun it hit hne=>⟨by
   have:=hpo it hit hne
   by_cases hκl : it.κ < K.length
   ·have e : keyR K t it.κ = K.getD it.κ 0:=by unfold keyR; exact if_pos hκl
    have:=hKg _ hκl
    omega
   ·rw [hkr _ (by omega)]; omega,hmk _ (hpo it hit hne)⟩)
  have hdj' : ∀ b,B1' b → ¬ B2 b:=fun b hb h9=>by
   rcases hB' b hb with h | h
   ·exact hdj b h h9
   ·have:=hlt b ((hBB b).2 (.inr h9)); omega
  have hOn : OwnL (fm.its k') w' m' (fun b=>B1' b ∨ B2 b):=(OwnL.join hO1' hO2' hdj' (fun _=>Iff.rfl)).perm hp2.symm
  have hBn : ∀ b,(B1' b ∨ B2 b) → B b ∨ w.heap.size ≤ b:=fun b hb=>by
   rcases hb with hb | hb
   ·rcases hB' b hb with h | h
    ·exact .inl (hB1 b h)
    ·exact .inr h
   ·exact .inl ((hBB b).2 (.inr hb))
  refine hKk _ _ ⟨by rw [hdst]; exact hdf,F',m',?_⟩
  have base : RelF G (τ.set gh (.gho 0 [.fam (famOf fm p m0)] 0 k')) a.tmps w' F' m':=by
   refine ⟨hR.size,hR.nle,fun t ht=>?_,fun g hg=>?_,fun g g' b hg hg' hb hb' h3 h4=>?_,wf',hR.chg.trans c (fun b hb hlt'=>(hE.own b (hB1 b hb)).resolve_right (by omega)),fun g b hg hb h3=>?_,fun i hi=>?_,hR.nlt,fun b=>B1' b ∨ B2 b,?_⟩
   ·by_cases e : t = gh
    ·subst e; rw [Env.set_same]; exact .gho _ _ _ _ _ _
    ·rw [Env.set_ne _ _ _ _ e]; exact (hR.slots t ht).stable c hmm
   ·rw [Env.set_ne _ _ _ _ (gh_ne hg)]
    exact (hR.blks g hg).stable c hmm (fun e=>by have:=hR.blks g hg; rw [e] at this; rw [hmo g (.inr (by omega))]; exact this) (fun b hb hm h9=>(hdis g b hg hb hm).1 (hB1 b h9))
   ·rw [Env.set_ne _ _ _ _ (gh_ne hg)] at hb
    rw [Env.set_ne _ _ _ _ (gh_ne hg')] at hb'
    rw [hmo g (.inr (by omega))] at h3
    rw [hmo g' (.inr (by omega))] at h4
    exact hR.inj g g' b hg hg' hb hb' h3 h4
   ·rw [Env.set_ne _ _ _ _ (gh_ne hg)] at hb
    rw [hmo g (.inr (by omega))] at h3
    exact hR.own g b hg hb h3
   ·rw [Env.set_ne _ _ _ _ (gh_ne (Nat.le_add_right _ _)),hmo (nb + i) (.inr (by omega))]; exact hR.par i hi
   ·refine ⟨fun q hq=>?_,fun b hb=>?_,fun h=>(by rw [hY] at h; cases h),fun Y' hY'=>?_,hE.low⟩
    ·obtain ⟨k1,k2,k3,k4⟩:=hE.kept q hq
     have hlt':=(Array.getElem?_eq_some_iff.1 k1).1
     have k4' : ¬ B1 q.1:=fun h=>k4 (hB1 _ h)
     exact ⟨(c.block _ hlt' k4').trans k1,k2,fun o ho=>k3 o (c.back _ o ho hlt' k4'),fun hb=>by rcases hBn _ hb with h | h; exact k4 h; omega⟩
    ·rcases hBn _ hb with h | h
     ·exact hE.own b h
     ·exact .inr (Nat.le_trans hR.chg.size h)
    ·rw [hY] at hY'
     obtain rfl:=Option.some.inj hY'
     refine ⟨hlo,⟨k',?_,fun l L e k' he=>?_⟩,fun g b hg hb hm=>?_⟩
     ·rw [hj]
      refine ⟨hOn,fun b o hb ho=>?_,fun κ h3 h4=>?_,fun κ h3=>?_⟩
      ·rcases hb with hb | hb
       ·exact hBF' b o hb ho
       ·exact hBF b o ((hBB b).2 (.inr hb)) (c.back b o ho (hlt b ((hBB b).2 (.inr hb))) (fun h9=>hdj b h9 hb))
      ·rw [hmo κ (.inr h3)]
       exact hfree κ (by omega) h4
      ·rw [hmo κ (.inl (by omega))]
       exact hm0 κ h3
     ·rw [Env.set_same] at he
      injection he with q1 q2 q3 q4
      exact ⟨by rw [← q1,hYl],by rw [← q2,hYL],by rw [← q3,hYs],q4.symm⟩
     ·rw [Env.set_ne _ _ _ _ (gh_ne hg)] at hb
      rw [hmo g (.inr (by omega))] at hm
      refine ⟨fun hB=>?_,(hdis g b hg hb hm).2⟩
      rcases hBn _ hB with h | h
      ·exact (hdis g b hg hb hm).1 h
      ·have:=(hR.blks g hg).lt hb hm; omega
  rw [hdst]
  refine base.slot hd (hv.rk_out (fun κ q _ hq=>?_) hl2)
  have hκ : κ < top':=Classical.byContradiction fun h=>by rw [hm1n κ (by omega)] at hq; cases hq
  refine ⟨(hmk κ hκ).trans hq,?_⟩
  by_cases hκl : κ < K.length
  ·have e : keyR K t κ = K.getD κ 0:=by unfold keyR; exact if_pos hκl
   have:=hKg _ hκl
   omega
  ·rw [hkr _ (by omega)]; omega
theorem s_rcall {d f k p top' : Nat} {fm : Fm} {m0 : Names} {pre post : List It} {ds da : List D} {r rr : D} {xs : List Opd} (k' : Nat) (K : List Nat) (rest : List It) (hc : RCalls P f pre ds post top' r) (hgh : hold (σ gh) = .gho 0 [.fam (famOf fm p m0)] 0 k) (hda : hold (xs.map (Opd.val σ)) = da)
  (hds : da = ds.map (D.rk (keyR K (fm.top k)))) (hrr : r.rk (keyR K (fm.top k)) = rr) (hl1 : D.lowL ds = true) (hl2 : r.low = true) (hK : K.length = pre.length) (hKt : ∀ κ,κ ∈ K → κ < fm.top k) (hpt : p ≤ fm.top k)
  (hp1 : (fm.its k).Perm (pre.map (It.rk (keyR K (fm.top k))) ++ rest)) (hp2 : (fm.its k').Perm (post.map (It.rk (keyR K (fm.top k))) ++ rest)) (hpk : ∀ it,it ∈ pre → it.es ≠ [] → it.κ < K.length) (hpo : ∀ it,it ∈ post → it.es ≠ [] → it.κ < top')
  (hr1 : ∀ it,it ∈ rest → it.es ≠ [] → it.κ < fm.top k) (ht : K.length ≤ top') (htop : fm.top k' = fm.top k + (top' - K.length)) (hnb : fm.top k' ≤ 900000) (hKs : K.length ≤ 900000)
  (h : evG P B l (hold (Env.put [(gh,.gho 0 [.fam (famOf fm p m0)] 0 k'),(d,rr)] σ)) (hold (push ⟨rd ++ (hold (xs.flatMap Opd.rd) ++ [gh]),wr ++ [gh,d]⟩ acc)) N) : evS P B rd wr (.call d f xs) true l σ acc N:=by
 unfold hold at hda
 subst hrr
 refine ⟨⟨xs.flatMap Opd.rd ++ [gh],[gh,d]⟩,[(gh,.gho 0 [.fam (famOf fm p m0)] 0 k'),(d,r.rk (keyR K (fm.top k)))],fun G hP xo o hcp=>?_,h⟩
 obtain ⟨d',hdst,hd,hcc⟩:=copc_call hcp
 obtain ⟨rfl,hf,ops,ts,ho,ha⟩:=ccall_call hcc
 exact in_rcall hP ho hf ha hdst hd hgh hc hK hKt hpt hp1 hp2 hpk hpo hr1 ht htop hnb hKs (hda.trans hds) hl1 hl2
end
theorem OwnL.bound : ∀ {l : List It} {w : World} {m : Names} {B : Blocks},OwnL l w m B → ∀ it,it ∈ l → it.es ≠ [] → it.κ < nb ∧ ∃ b,m it.κ = some (some b)
 | [],_,_,_,_,_,h,_=>by cases h
 | x :: l,_,_,_,⟨B1,B2,h1,h2,_,_⟩,it,hit,h0=>by
  rcases List.mem_cons.1 hit with rfl | hit
  ·rcases h1 with ⟨h,_⟩ | ⟨_,hk,b,cap,hg,_⟩
   ·exact absurd h h0
   ·exact ⟨hk,b,hg⟩
  ·exact h2.bound it hit h0
def FinRC (rs : List Res) (r : D) (fm : Fm) (p : Nat) (m0 : Names) (k1 : Nat) (τ : Env) : Prop:=∃ τ',Wk 0 τ τ' ∧ FinYC rs r 0 [.fam (famOf fm p m0)] 0 k1 τ'
theorem rcalls_ofO {P : Program} {xo : List Nat} {f : FuncId} {n : Nat} {dc : DC} {rs : List Res} (hc : cfun P xo f = some (n,dc,rs)) (hm : P.follows .mixedOrders = true) {pre post : List It} {ds : List D} {r : D} {top' : Nat} (fm : Fm) (k0 k1 : Nat) (ρ : Nat → Nat) (hl : ds.length ≤ n) (hr : r.low = true)
  (h0 : fm.top k0 = pre.length) (hi0 : (fm.its k0).Perm pre) (hi1 : ∀ w m B,OwnL (fm.its k1) w m B → OwnL (post.map (It.rk ρ)) w m B) (hpo : ∀ it,it ∈ post → it.es ≠ [] → it.κ < top') (hρ : ∀ κ,κ < pre.length → ρ κ = κ) (hρt : ∀ κ,top' ≤ κ → nb ≤ ρ κ) (hpp : pre.length ≤ top') (htn : top' ≤ 900000)
  (hd : ∀ m0,dwp P 0 dc (hold (entYC 0 [.fam (famOf fm pre.length m0)] 0 k0 ds)) (FinRC rs (r.rk ρ) fm pre.length m0 k1) (fun _ _=>False) (FinRC rs (r.rk ρ) fm pre.length m0 k1)) : RCalls P f pre ds post top' r:=by
 unfold cfun at hc
 split at hc
 rotate_left
 ·cases hc
 rename_i fn hf
 split at hc
 rotate_left
 ·cases hc
 rename_i c hb
 simp only [Option.bind_eq_some_iff,oif_some,Option.some.injEq,Prod.mk.injEq,decide_eq_true_eq] at hc
 obtain ⟨dc',hdc,rs',hrs,hnb,rfl,rfl,rfl⟩:=hc
 intro w F m B xs hwf hO hBF hmn hxl hfz
 have hn1 : nb = 1000000:=rfl
 refine (callsIn_wide (n:=3)).1 (callsIn_of_wp_marks hf hb trivial ?_)
 have hBlt : ∀ {k : Nat} {w : World} {F : Cells} {m' : Names} {B : Blocks},famOf fm pre.length m k w F m' B → ∀ b,B b → b < w.heap.size:=fun h b hb=>by
  obtain ⟨cur,T,hrow⟩:=h.1.row b hb
  exact (Array.getElem?_eq_some_iff.1 hrow).1
 let Y : YC:={
  P:=P,l:=0,L:=[.fam (famOf fm pre.length m)],stop:=0,lo:=0,J:=famOf fm pre.length m
  lt:=fun k w F m' B h=>⟨Nat.zero_le _,hBlt h⟩
  stable:=fun k w F m1 m2 B T w' F' h hc wf hT hlow=>by
   have hlt:=hBlt h
   obtain ⟨q1,q2,q3,q4⟩:=h
   refine ⟨q1.stable (fun b hb=>hc.block b (hlt b hb) (fun ht=>(hT b ht).1 hb)) (fun it hit hne=>hlow _ (q1.bound it hit hne).1),fun b o hb ho=>q2 b o hb (hc.back b o ho (hlt b hb) (fun ht=>(hT b ht).1 hb)),fun κ h1 h2=>(hlow κ h2).trans (q3 κ h1 h2),fun κ h1=>(hlow κ (by omega)).trans (q4 κ h1)⟩
  fam:=fun St h=>by
   injection h with h _
   exact ⟨by injection h,rfl⟩
  ig:=fun h=>absurd rfl (h _)
  call:=fun k w F m' B es xs hJ _ _ hL _ _ _=>by
   cases k with
   | zero=>cases hL
   | succ k=>cases hL }
 have hJ : Y.J k0 w F m B:=⟨hO.perm hi0.symm,hBF,fun κ h2 _=>hmn κ (by omega),fun κ _=>rfl⟩
 let G : Ctx:={ n:=fn.ntmps,w0:=w,F0:=F,R0:=B,k:=0,m0:=m,Y:=some Y }
 have hgetx : ∀ t,(xs.toArray ++ Array.replicate (fn.ntmps - xs.toArray.size) undef).getD t undef = xs.getD t undef:=by
  intro t
  simp only [Array.getD_eq_getD_getElem?,List.getD_eq_getElem?_getD]
  by_cases ht : t < xs.length
  ·rw [Array.getElem?_append_left (by simpa using ht)]
   simp
  ·rw [Array.getElem?_append_right (by simpa using ht),Array.getElem?_replicate,List.getElem?_eq_none (by omega)]
   split <;> rfl
 have hslot : ∀ t,t < nb → t ≠ gh → entYC 0 [.fam (famOf fm pre.length m)] 0 k0 ds t = if t < ds.length then ds.getD t .any else .any:=by
  intro t ht hne
  unfold entYC
  rw [Env.set_ne _ _ _ _ hne]
  unfold ent
  rw [entL_at,entL_at]
  by_cases h : t < ds.length
  ·rw [if_pos ⟨Nat.zero_le _,by omega⟩,if_pos h]; simp
  ·rw [if_neg (by omega),if_neg (by simp),if_neg h]; unfold base; rw [if_pos ht]
 have hnm : ∀ g,nb ≤ g → entYC 0 [.fam (famOf fm pre.length m)] 0 k0 ds g = .free:=by
  intro g hg
  have hdg : ds.length ≤ gh:=Nat.le_trans hl hnb
  have h9 : (1000000 : Nat) ≤ g:=hg
  have h8 : ds.length ≤ 999999:=hdg
  unfold entYC
  rw [Env.set_ne _ _ _ _ (by show ¬ g = 999999; omega)]
  unfold ent
  rw [entL_at,entL_at,if_neg (by omega),if_neg (by simp)]
  unfold base
  rw [if_neg (by show ¬ g < 1000000; omega),if_neg (by show ¬ g < 1000000 + 0; omega)]
 have hR0 : Rel G (entYC 0 [.fam (famOf fm pre.length m)] 0 k0 ds) { tmps:=xs.toArray ++ Array.replicate (fn.ntmps - xs.toArray.size) undef,defers:=[] } w:=by
  refine ⟨rfl,F,m,?_,Nat.le_trans hnb (by decide),fun t ht=>?_,fun g hg=>?_,fun g g' b hg hg' h1 h2 h3 h4=>?_,hwf,Chg.refl w F _,fun g b hg h1 h2=>?_,fun i hi=>absurd hi (Nat.not_lt_zero i),hnb,B,fun p hp=>(by cases hp),fun b hb=>.inl hb,fun h=>(by cases h),fun Y' hY'=>?_,fun Y' hY' p hp=>(by cases hp)⟩
  ·show (xs.toArray ++ Array.replicate (fn.ntmps - xs.toArray.size) undef).size = fn.ntmps
   simp only [Array.size_append,Array.size_replicate,List.size_toArray]
   omega
  ·show Fz w F m (entYC 0 [.fam (famOf fm pre.length m)] 0 k0 ds t) ((xs.toArray ++ Array.replicate (fn.ntmps - xs.toArray.size) undef).getD t undef)
   by_cases hne : t = gh
   ·subst hne; unfold entYC; rw [Env.set_same]; exact .gho _ _ _ _ _ _
   ·rw [hgetx,hslot t ht hne]
    by_cases h : t < ds.length
    ·have hx : xs[t]? = some (xs.getD t undef):=by rw [List.getD_eq_getElem?_getD,List.getElem?_eq_getElem (by omega)]; rfl
     have hdd : ds[t]? = some (ds.getD t .any):=by rw [List.getD_eq_getElem?_getD,List.getElem?_eq_getElem h]; rfl
     rw [if_pos h]
     exact hfz t _ _ hdd hx
    ·rw [if_neg h]; exact .any _ _
  ·rw [hnm g hg]; exact hmn g (by omega)
  ·rw [hnm g hg] at h1; cases h1
  ·rw [hnm g hg] at h1; cases h1
  ·obtain rfl:=Option.some.inj hY'
   refine ⟨Nat.zero_le _,⟨k0,hJ,fun l L' e k he=>?_⟩,fun g b hg hb _=>?_⟩
   ·unfold entYC at he
    rw [Env.set_same] at he
    injection he with q1 q2 q3 q4
    exact ⟨q1.symm,q2.symm,q3.symm,q4.symm⟩
   ·rw [hnm g hg] at hb; cases hb
 have fin : ∀ (a' : Act) (w' : World),(∃ G' τ,GExt G G' ∧ G'.ok P ∧ Rel G' τ a' w' ∧ FinRC rs' (r.rk ρ) fm pre.length m k1 τ) → LeavesInM Fence.wide 3 P fn a'.tmps (fun e w'=>∃ x F' m' B',e = .returned x ∧ Chg w F B w' F' ∧ (∀ b o,F' b o → b < w'.heap.size) ∧ (∀ b,B' b → B b ∨ w.heap.size ≤ b) ∧ (∀ b o,B' b → ¬ F' b o) ∧
   (∀ κ,κ < pre.length → m' κ = m κ) ∧ (∀ κ,top' ≤ κ → m' κ = none) ∧ Fz w' F' m' r x ∧ OwnL post w' m' B') a'.defers .returning w':=by
  rintro a' w1 ⟨G',τ0,hG,hok',hR,τ,hwk,hgk,hro,hrr⟩
  obtain ⟨K,M,rfl,hK⟩:=hG
  obtain ⟨hdf,F',m1,hR⟩:=hwk _ a' w1 rfl hR
  obtain ⟨B1,hE1⟩:=hR.ext
  rw [hdf]
  refine marks_out _ _ _ B1 hR hE1 hok'.mrk hok'.nd hok'.new (fun K' w' hR hE=>?_)
  obtain ⟨v,hv,hfv⟩:=res_run (a:=a') hR fn hrs hro
  have hrr' : resD τ rs' = r.rk ρ:=hrr
  rw [hrr'] at hfv
  obtain ⟨_,⟨k'',hJ',hk'⟩,_⟩:=hE.yes Y rfl
  obtain ⟨_,_,_,rfl⟩:=hk' _ _ _ _ hgk
  obtain ⟨q1,q2,q3,q4⟩:=hJ'
  refine ⟨v,hv,v,F',fun κ=>if κ < top' then m1 (ρ κ) else none,B1,rfl,hR.chg,hR.wf,hE.own,q2,fun κ hκ=>?_,fun κ hκ=>if_neg (by omega),?_,?_⟩
  ·show (if κ < top' then m1 (ρ κ) else none) = m κ
   rw [if_pos (by omega),hρ κ hκ]
   exact q4 κ hκ
  ·refine Fz.rk_in (m:=m1) (ρ:=ρ) (fun κ q hκ hq=>?_) r v hr hfv
   have hκt : κ < top':=Classical.byContradiction fun h=>by have:=hρt κ (by omega); omega
   refine ⟨by omega,?_⟩
   show (if κ < top' then m1 (ρ κ) else none) = some q
   rw [if_pos hκt]
   exact hq
  ·refine (hi1 _ _ _ q1).rk_in (fun it hit hne=>⟨by have:=hpo it hit hne; omega,?_⟩)
   show (if it.κ < top' then m1 (ρ it.κ) else none) = m1 (ρ it.κ)
   rw [if_pos (hpo it hit hne)]
 have hok0 : G.ok P:=⟨fun Y' hY'=>(by obtain rfl:=Option.some.inj hY'; rfl),fun l hl=>(by cases hl),fun b hb=>(by cases hb),List.nodup_nil,fun b hb=>(by cases hb)⟩
 refine wpIn_mono (F:=G.fen) (dwp_ok hm c dc' G (entYC 0 [.fam (famOf fm pre.length m)] 0 k0 ds) _ w _ _ _ 3 hok0 hdc hR0 (hd m)) ?_
 intro en a' w' hp
 cases en with
 | normal=>exact fin a' w' hp
 | ret=>exact fin a' w' hp
 | exit id=>obtain ⟨_,_,_,_,_,h⟩:=hp; exact h.elim
 | _=>exact hp.elim
theorem rcalls_of {P : Program} {xo : List Nat} {f : FuncId} {n : Nat} {dc : DC} {rs : List Res} (hc : cfun P xo f = some (n,dc,rs)) (hm : P.follows .mixedOrders = true) {pre post : List It} {ds : List D} {r : D} {top' : Nat} (fm : Fm) (k0 k1 : Nat) (ρ : Nat → Nat) (hl : ds.length ≤ n) (hr : r.low = true)
  (h0 : fm.top k0 = pre.length) (hi0 : (fm.its k0).Perm pre) (hi1 : (fm.its k1).Perm (post.map (It.rk ρ))) (hpo : ∀ it,it ∈ post → it.es ≠ [] → it.κ < top') (hρ : ∀ κ,κ < pre.length → ρ κ = κ) (hρt : ∀ κ,top' ≤ κ → nb ≤ ρ κ) (hpp : pre.length ≤ top') (htn : top' ≤ 900000)
  (hd : ∀ m0,dwp P 0 dc (hold (entYC 0 [.fam (famOf fm pre.length m0)] 0 k0 ds)) (FinRC rs (r.rk ρ) fm pre.length m0 k1) (fun _ _=>False) (FinRC rs (r.rk ρ) fm pre.length m0 k1)) : RCalls P f pre ds post top' r:=
 rcalls_ofO hc hm fm k0 k1 ρ hl hr h0 hi0 (fun _ _ _ h=>h.perm hi1) hpo hρ hρt hpp htn hd
theorem rcalls_nil {P : Program} {f : FuncId} {ds : List D} {post : List It} {top' : Nat} {r : D} (h : Does P f [] ds r []) (hds : D.purL ds = true) (hr : r.pur = true) (hp : ∀ it,it ∈ post → it.es = []) : RCalls P f [] ds post top' r:=by
 intro w F m B xs hwf hO hBF hmn hxl hfz
 refine (h w F noNames xs hxl (Nat.zero_le _) hwf (fun i d x hd hx=>(hfz i d x hd hx).pure (D.purL_iff.1 hds d (List.mem_of_getElem? hd)) noNames) (fun i d hd=>by simp at hd) (fun _ _=>rfl) (fun i j b hi=>by simp at hi)).mono ?_
 rintro e w' ⟨x,F',m',rfl,c,wf',_,_,hx,_⟩
 have hT : ∀ b,¬ (∃ i,i < ([] : List D).length ∧ noNames (nb + i) = some (some b)):=fun b ⟨i,hi,_⟩=>by simp at hi
 have ho : ∀ {l : List It},(∀ it,it ∈ l → it.es = []) → OwnL l w' noNames noBlocks:=by
  intro l
  induction l with
  | nil=>exact fun _ _ hb=>hb
  | cons it l ih=>exact fun hl=>⟨noBlocks,noBlocks,.inl ⟨hl it (List.mem_cons_self ..),fun _ hb=>hb⟩,ih (fun x hx=>hl x (List.mem_cons_of_mem _ hx)),fun _ hb=>hb.elim,fun b=>⟨fun h=>h.elim,fun h=>h.elim id id⟩⟩
 exact ⟨x,F',noNames,noBlocks,rfl,c.mono (fun b hb=>(hT b hb).elim),wf',fun _ hb=>hb.elim,fun _ _ hb=>hb.elim,fun κ hκ=>by simp at hκ,fun _ _=>rfl,hx.pure hr noNames,ho hp⟩
end Go.Proofs.Ytclkehekhdfnnaa
