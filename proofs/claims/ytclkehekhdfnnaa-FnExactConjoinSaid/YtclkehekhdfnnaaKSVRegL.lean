/-
  Trees of one's own lent to a call that takes what stands still. No condition.
-/
import Derived.Test.YtclkehekhdfnnaaKSVReg
set_option maxHeartbeats 4000000
set_option maxRecDepth 100000
set_option linter.unusedVariables false
set_option linter.unusedSimpArgs false
namespace Go.Proofs.Ytclkehekhdfnnaa
open Go.RowKit
inductive LentK (its : List It) : D → D → Prop
 | same (d : D) (h : d.pur = true) : LentK its d d
 | key (it : It) (hm : it ∈ its) (h0 : it.es ≠ []) : LentK its (.kow it.κ it.s it.es.length) (.sl it.s it.es)
 | agg (cs ds : List D) (hl : cs.length = ds.length) (h : ∀ (i : Nat) (c d : D),cs[i]? = some c → ds[i]? = some d → LentK its c d) : LentK its (.agg cs) (.agg ds)
 | tup (cs ds : List D) (hl : cs.length = ds.length) (h : ∀ (i : Nat) (c d : D),cs[i]? = some c → ds[i]? = some d → LentK its c d) : LentK its (.tup cs) (.tup ds)
theorem LentK.kD {its : List It} {κ s : Nat} {es : List D} (h : ⟨κ,s,es⟩ ∈ its) : LentK its (kD κ s es) (.sl s es):=by
 unfold Proofs.Ytclkehekhdfnnaa.kD
 by_cases h0 : es = []
 ·rw [if_pos h0,h0]; exact .same _ rfl
 ·rw [if_neg h0]; exact .key ⟨κ,s,es⟩ h h0
def LentKL (its : List It) : List D → List D → Prop
 | [],[]=>True
 | c :: cs,d :: ds=>LentK its c d ∧ LentKL its cs ds
 | _,_=>False
theorem LentKL.at : ∀ {its : List It} {cs ds : List D},LentKL its cs ds → cs.length = ds.length ∧ ∀ (i : Nat) (c d : D),cs[i]? = some c → ds[i]? = some d → LentK its c d
 | _,[],[],_=>⟨rfl,fun i c d h=>by simp at h⟩
 | its,c :: cs,d :: ds,h=>by
  obtain ⟨h1,h2⟩:=LentKL.at h.2
  refine ⟨by simp [h1],fun i a b ha hb=>?_⟩
  cases i with
  | zero=>
   obtain rfl : c = a:=by simpa using ha
   obtain rfl : d = b:=by simpa using hb
   exact h.1
  | succ i=>exact h2 i a b (by simpa using ha) (by simpa using hb)
 | _,[],_ :: _,h=>h.elim
 | _,_ :: _,[],h=>h.elim
theorem LentK.aggL {its : List It} {cs ds : List D} (h : LentKL its cs ds) : LentK its (.agg cs) (.agg ds):=.agg cs ds h.at.1 h.at.2
theorem OwnL.get : ∀ {l : List It} {w : World} {m : Names} {B : Blocks},OwnL l w m B → ∀ it,it ∈ l → ∃ B1,(∀ b,B1 b → B b) ∧ treeAt it w m B1
 | [],_,_,_,_,_,h=>by cases h
 | x :: l,_,_,_,⟨B1,B2,h1,h2,_,h4⟩,it,hit=>by
  rcases List.mem_cons.1 hit with rfl | hit
  ·exact ⟨B1,fun b hb=>(h4 b).2 (.inl hb),h1⟩
  ·obtain ⟨B3,h5,h6⟩:=h2.get it hit
   exact ⟨B3,fun b hb=>(h4 b).2 (.inr (h5 b hb)),h6⟩
theorem lentK_fz {its : List It} {w : World} {F : Cells} {m : Names} {B : Blocks} (hO : OwnL its w m B) {c d : D} (hl : LentK its c d) : ∀ {x : Value},Fz w F m c x → Fz w (fun b o=>F b o ∨ B b) noNames d x:=by
 have keep : ∀ {d : D} {x : Value},Fz w F m d x → Fz w (fun b o=>F b o ∨ B b) m d x:=fun h=>h.still (T:=fun _=>True) ⟨rfl,rfl,rfl,Nat.le_refl _,fun _ _ h=>(h trivial).elim,fun _ cur _ _ h=>⟨cur,h,rfl⟩,fun _ _ h=>⟨Or.inl h,rfl⟩,fun _ _ _ _ h=>(h trivial).elim,Nat.le_refl _⟩
 induction hl with
 | same d hp=>intro x h; exact (keep h).pure hp noNames
 | key it hm h0=>
  intro x h
  obtain ⟨B1,hB1,ht⟩:=hO.get it hm
  rcases ht with ⟨h1,_⟩ | ⟨_,_,b,cap,hg,hs⟩
  ·exact absurd h1 h0
  ·have hf : Fz w (fun b o=>F b o ∨ B b) noNames (.sl it.s it.es) (.slice (some ⟨b,0,none⟩) it.es.length cap):=hs.fz (fun b o hb=>Or.inr (hB1 b hb))
   generalize hn : it.es.length = n at h hf
   cases h with
   | kow _ _ _ _ b2 cap2 cur2 T2 hκ hg2 hs2 hle2 hb2 hcap2=>
    rw [hg] at hg2
    obtain rfl : b = b2:=by injection hg2 with hg2; injection hg2
    generalize hes : it.es = es at hf hn
    cases hf with
    | sl0 _ _ _ _=>exact .sl0 _ _ _ _
    | sl _ _ _ _ off _ u hs hle hlen hu hr=>exact .sl _ _ _ _ 0 cap2 u hs hle2 hlen hu hr
 | agg cs ds hl h ih=>
  intro x h
  cases h with
  | agg _ _ us hl' h1 hr=>
   exact .agg _ _ us (hl'.trans hl) h1 (fun i d u hd hu=>by
    have hlt : i < cs.length:=by rw [hl]; exact (List.getElem?_eq_some_iff.1 hd).1
    have hc:=List.getElem?_eq_getElem hlt
    exact ih i _ d hc hd (hr i _ u hc hu))
 | tup cs ds hl h ih=>
  intro x h
  cases h with
  | tup _ _ us hl' hr=>
   exact .tup _ _ us (hl'.trans hl) (fun i d u hd hu=>by
    have hlt : i < cs.length:=by rw [hl]; exact (List.getElem?_eq_some_iff.1 hd).1
    have hc:=List.getElem?_eq_getElem hlt
    exact ih i _ d hc hd (hr i _ u hc hu))
mutual
def D.scal : D → Bool
 | .v _=>true
 | .agg cs=>D.scalL cs
 | .tup cs=>D.scalL cs
 | _=>false
def D.scalL : List D → Bool
 | []=>true
 | d :: l=>D.scal d && D.scalL l
end
theorem D.scalL_iff : ∀ {l : List D},D.scalL l = true ↔ ∀ d,d ∈ l → d.scal = true
 | []=>by simp [D.scalL]
 | d :: l=>by rw [D.scalL,Bool.and_eq_true,D.scalL_iff (l:=l)]; simp
theorem Fz.scal {w w' : World} {F F' : Cells} {m : Names} {d : D} {x : Value} (h : Fz w F m d x) : d.scal = true → ∀ m',Fz w' F' m' d x:=by
 induction h with
 | v m x=>intro _ m'; exact .v m' x
 | agg m cs us hl h1 hr ih=>intro hp m'; exact .agg m' cs us hl h1 (fun i d u hd hu=>ih i d u hd hu (D.scalL_iff.1 hp d (List.mem_of_getElem? hd)) m')
 | tup m cs us hl hr ih=>intro hp m'; exact .tup m' cs us hl (fun i d u hd hu=>ih i d u hd hu (D.scalL_iff.1 hp d (List.mem_of_getElem? hd)) m')
 | _=>intro hp; cases hp
section
variable {P : Program} {G : Ctx} {σ : Env} {B : List Nat} {l : List GI} {acc : Option (List Ent)} {N : Env → Prop} {rd wr : List Nat}
theorem in_rlend {o : Oper} (hP : G.okP P) {d f k p : Nat} {fm : Fm} {m0 : Names} {es : List D} {r : D} {xs : List Opd} {ops : Array Operand} {ts : Array TypeId} (ho : o.op = .call { callee:=.value (.func f),args:=ops,argTypes:=ts }) (hf : enters P f = true) (ha : ops.toList.mapM opd = some xs)
  (hdst : o.dst = some d) (hd : d < G.n) (hgh : σ gh = .gho 0 [.fam (famOf fm p m0)] 0 k) (hdo : Does P f [] es r []) (hL : LentKL (fm.its k) (xs.map (Opd.val σ)) es) (hr : r.scal = true) :
  OpOK P G o ⟨xs.flatMap Opd.rd ++ [gh],[d]⟩ σ [(d,r)] where
 wr q hq:=by
  obtain rfl:=List.mem_singleton.1 hq
  exact List.mem_singleton.2 rfl
 run τ a w Kk Q hag hR hKk:=by
  intro n
  obtain ⟨hdf,F,m,hR⟩:=hR
  have hag2 : ∀ t,t ∈ xs.flatMap Opd.rd → τ t = σ t:=fun t ht=>hag t (List.mem_append_left _ ht)
  have hτ : τ gh = .gho 0 [.fam (famOf fm p m0)] 0 k:=(hag gh (List.mem_append_right _ (List.mem_singleton.2 rfl))).trans hgh
  obtain ⟨h1,h2⟩:=opds_fz hR ha hag2
  obtain ⟨Y,B,hY,hE,hj,hY0,hYL,hYl,hYs,hOwn,hBF,hfree,hm0⟩:=fam_at hR.ext hτ
  obtain ⟨hlo,hJk,hdis⟩:=hE.yes Y hY
  have hlt : ∀ b,B b → b < w.heap.size:=fun b hb=>by
   obtain ⟨cur,T,hrow⟩:=hOwn.row b hb
   exact (Array.getElem?_eq_some_iff.1 hrow).1
  obtain ⟨hl1,hl2⟩:=hL.at
  have hcc:=hdo w (fun b o=>F b o ∨ B b) noNames (ops.toList.map a.eval) (h1.trans hl1) (Nat.zero_le _) (fun b o hbo=>hbo.elim (hR.wf b o) (hlt b)) (fun i e x he hx=>by
   have hi : i < (xs.map (Opd.val σ)).length:=by rw [hl1]; exact (List.getElem?_eq_some_iff.1 he).1
   have hc:=List.getElem?_eq_getElem hi
   exact lentK_fz hOwn (hl2 i _ e hc he) (h2 i _ x hc hx)) (fun i d hd=>by simp at hd) (fun _ _=>rfl) (fun i j b hi=>by simp at hi)
  have e1 : (ops.toList.map a.eval).toArray = ops.map a.eval:=by apply Array.ext'; simp
  have hrn : (execOp a.eval o).run P w = .ok (.enter f (ops.toList.map a.eval).toArray) w:=by
   have hc:=run_callFunc (P:=P) hf (ops.map a.eval) w
   rw [e1]
   simp [execOp,ho,resolve,Act.eval,Deferred.ofValue,invoke]
   exact hc
  have hs:=sem_at hrn (fun d e=>by cases e) G.fen
  refine ⟨fun _ _=>trivial,?_⟩
  rw [hs,hrn,Oper.uponIn_enter]
  refine ⟨fun h=>(by cases h),?_⟩
  have hcc' : CallsIn Fence.wide (n - 1) P f (ops.toList.map a.eval).toArray w _:=callsIn_wide.2 hcc
  refine CallsIn.mono (F:=G.fen) (show CallsIn G.fen (n - 1) P f (ops.toList.map a.eval).toArray w _ from hcc') ?_
  rintro en w' ⟨v,F1,m1,rfl,c1,wf1,_,_,hv,_⟩
  have hT : ∀ b,¬ (∃ i,i < ([] : List D).length ∧ noNames (nb + i) = some (some b)):=fun b ⟨i,hi,_⟩=>by simp at hi
  have c : Chg w F noBlocks w' (fun b o=>F1 b o ∧ ¬ B b):=⟨c1.os,c1.tape,c1.output,c1.size,fun b hb _=>c1.block b hb (hT b),c1.shape,fun b o hbo=>⟨⟨(c1.keep b o (.inl hbo)).1,fun hb=>hBF b o hb hbo⟩,(c1.keep b o (.inl hbo)).2⟩,fun b o hbo hb _=>(c1.back b o hbo.1 hb (hT b)).resolve_right hbo.2,c1.drawn⟩
  have wf' : ∀ b o,(F1 b o ∧ ¬ B b) → b < w'.heap.size:=fun b o h=>wf1 b o h.1
  refine hKk _ _ ⟨by rw [hdst]; exact hdf,fun b o=>F1 b o ∧ ¬ B b,m,?_⟩
  have base : RelF G τ a.tmps w' (fun b o=>F1 b o ∧ ¬ B b) m:=by
   refine ⟨hR.size,hR.nle,fun t ht=>(hR.slots t ht).still c,fun g hg=>(hR.blks g hg).stable c (fun _ _ h=>h) (fun e=>by have:=hR.blks g hg; rw [e] at this; exact this) (fun b _ _ h=>h),fun g g' b hg hg' hb hb' h3 h4=>hR.inj g g' b hg hg' hb hb' h3 h4,wf',hR.chg.trans c (fun b hb _=>hb.elim),fun g b hg hb h3=>hR.own g b hg hb h3,hR.par,hR.nlt,?_⟩
   exact hR.ext.step hR.blks c wf' (fun b hb=>hb.elim) (fun _ _ _ _ h=>h) (fun g b hg hb hm=>.inl ⟨g,hg,hb,hm⟩)
  rw [hdst]
  exact base.slot hd (hv.scal hr m)
theorem s_rlend {d f k p : Nat} {fm : Fm} {m0 : Names} {es da : List D} {r : D} {xs : List Opd} (hdo : Does P f [] es r []) (hgh : hold (σ gh) = .gho 0 [.fam (famOf fm p m0)] 0 k) (hda : hold (xs.map (Opd.val σ)) = da) (hL : LentKL (fm.its k) da es) (hr : r.scal = true)
  (h : evG P B l (hold (Env.put [(d,r)] σ)) (hold (push ⟨rd ++ (hold (xs.flatMap Opd.rd) ++ [gh]),wr ++ [d]⟩ acc)) N) : evS P B rd wr (.call d f xs) true l σ acc N:=by
 unfold hold at hda
 subst hda
 refine ⟨⟨xs.flatMap Opd.rd ++ [gh],[d]⟩,[(d,r)],fun G hP xo o hcp=>?_,h⟩
 obtain ⟨d',hdst,hd,hcc⟩:=copc_call hcp
 obtain ⟨rfl,hf,ops,ts,ho,ha⟩:=ccall_call hcc
 exact in_rlend hP ho hf ha hdst hd hgh hdo hL hr
end
mutual
def D.scalK : D → Bool
 | .v _=>true
 | .kow _ _ _=>true
 | .sl _ []=>true
 | .nul=>true
 | .agg cs=>D.scalKL cs
 | .tup cs=>D.scalKL cs
 | _=>false
def D.scalKL : List D → Bool
 | []=>true
 | d :: l=>D.scalK d && D.scalKL l
end
theorem D.scalKL_iff : ∀ {l : List D},D.scalKL l = true ↔ ∀ d,d ∈ l → d.scalK = true
 | []=>by simp [D.scalKL]
 | d :: l=>by rw [D.scalKL,Bool.and_eq_true,D.scalKL_iff (l:=l)]; simp
theorem Fz.scalK {w : World} {F F' : Cells} {m : Names} {d : D} {x : Value} (h : Fz w F m d x) : d.scalK = true → Fz w F' m d x:=by
 induction h with
 | v m x=>intro _; exact .v m x
 | sl0 m s a cap=>intro _; exact .sl0 m s a cap
 | sl m s es b off cap u hs hle hlen hu hr ih=>
  intro hp
  cases es with
  | nil=>exact .sl0 m s _ cap
  | cons _ _=>cases hp
 | nul m a=>intro _; exact .nul m a
 | kow m κ s n b cap cur U hκ hg hs hle hb hcap=>intro _; exact .kow m κ s n b cap cur U hκ hg hs hle hb hcap
 | agg m cs us hl h1 hr ih=>intro hp; exact .agg m cs us hl h1 (fun i d u hd hu=>ih i d u hd hu (D.scalKL_iff.1 hp d (List.mem_of_getElem? hd)))
 | tup m cs us hl hr ih=>intro hp; exact .tup m cs us hl (fun i d u hd hu=>ih i d u hd hu (D.scalKL_iff.1 hp d (List.mem_of_getElem? hd)))
 | _=>intro hp; cases hp
theorem scalK_low : ∀ (d : D),d.scalK = true → d.low = true
 | .v _,_=>rfl
 | .kow _ _ _,_=>rfl
 | .sl _ _,_=>rfl
 | .nul,_=>rfl
 | .agg cs,h=>by rw [D.scalK] at h; rw [D.low]; exact scalKL_low cs h
 | .tup cs,h=>by rw [D.scalK] at h; rw [D.low]; exact scalKL_low cs h
 | .any,h=>by cases h
 | .ifc _ _,h=>by cases h
 | .bnd _ _ _,h=>by cases h
 | .mv _ _,h=>by cases h
 | .fn _ _,h=>by cases h
 | .ptr _,h=>by cases h
 | .ref _ _,h=>by cases h
 | .own _ _ _,h=>by cases h
 | .owo _ _ _ _,h=>by cases h
 | .eref _ _ _ _,h=>by cases h
 | .obj _,h=>by cases h
 | .row _ _,h=>by cases h
 | .free,h=>by cases h
 | .gho _ _ _ _,h=>by cases h
 | .fam _,h=>by cases h
  where scalKL_low : ∀ (l : List D),D.scalKL l = true → D.lowL l = true
 | [],_=>rfl
 | d :: l,h=>by
  rw [D.scalKL,Bool.and_eq_true] at h
  rw [D.lowL,scalK_low d h.1,scalKL_low l h.2]; rfl
theorem kD_scalK (κ s : Nat) (es : List D) : (Proofs.Ytclkehekhdfnnaa.kD κ s es).scalK = true:=by
 unfold Proofs.Ytclkehekhdfnnaa.kD
 split <;> rfl
section
variable {P : Program} {G : Ctx} {σ : Env} {B : List Nat} {l : List GI} {acc : Option (List Ent)} {N : Env → Prop} {rd wr : List Nat}
theorem in_rlendR {o : Oper} (hP : G.okP P) {d f k k' p top' : Nat} {fm : Fm} {m0 : Names} {post : List It} {es : List D} {r : D} {xs : List Opd} {ops : Array Operand} {ts : Array TypeId} (ho : o.op = .call { callee:=.value (.func f),args:=ops,argTypes:=ts }) (hf : enters P f = true) (ha : ops.toList.mapM opd = some xs)
  (hdst : o.dst = some d) (hd : d < G.n) (hgh : σ gh = .gho 0 [.fam (famOf fm p m0)] 0 k) (hc : RCalls P f [] es post top' r) (hL : LentKL (fm.its k) (xs.map (Opd.val σ)) es) (hpt : p ≤ fm.top k)
  (hp2 : (fm.its k').Perm (post.map (It.rk (fm.top k + ·)) ++ fm.its k)) (hpo : ∀ it,it ∈ post → it.es ≠ [] → it.κ < top') (hr1 : ∀ it,it ∈ fm.its k → it.es ≠ [] → it.κ < fm.top k) (htop : fm.top k' = fm.top k + top') (hnb : fm.top k' ≤ 900000) (hr : r.scalK = true) :
  OpOK P G o ⟨xs.flatMap Opd.rd ++ [gh],[gh,d]⟩ σ [(gh,.gho 0 [.fam (famOf fm p m0)] 0 k'),(d,r.rk (fm.top k + ·))] where
 wr q hq:=by
  rcases List.mem_cons.1 hq with rfl | hq
  ·exact List.mem_cons_self ..
  ·obtain rfl:=List.mem_singleton.1 hq; exact List.mem_cons_of_mem _ (List.mem_singleton.2 rfl)
 run τ a w Kk Q hag hR hKk:=by
  intro n
  obtain ⟨hdf,F,m,hR⟩:=hR
  have hag2 : ∀ t,t ∈ xs.flatMap Opd.rd → τ t = σ t:=fun t ht=>hag t (List.mem_append_left _ ht)
  have hτ : τ gh = .gho 0 [.fam (famOf fm p m0)] 0 k:=(hag gh (List.mem_append_right _ (List.mem_singleton.2 rfl))).trans hgh
  obtain ⟨h1,h2⟩:=opds_fz hR ha hag2
  obtain ⟨Y,B,hY,hE,hj,hY0,hYL,hYl,hYs,hOwn,hBF,hfree,hm0⟩:=fam_at hR.ext hτ
  have hn1 : nb = 1000000:=rfl
  obtain ⟨t,htt⟩ : ∃ t,t = fm.top k:=⟨_,rfl⟩
  rw [← htt] at hpt hp2 hr1 htop hfree hKk
  obtain ⟨hlo,hJk,hdis⟩:=hE.yes Y hY
  have hlt : ∀ b,B b → b < w.heap.size:=fun b hb=>by
   obtain ⟨cur,T,hrow⟩:=hOwn.row b hb
   exact (Array.getElem?_eq_some_iff.1 hrow).1
  obtain ⟨hl1,hl2⟩:=hL.at
  have hcc:=hc w (fun b o=>F b o ∨ B b) noNames noBlocks (ops.toList.map a.eval) (fun b o hbo=>hbo.elim (hR.wf b o) (hlt b)) (fun _ hb=>hb) (fun _ _ hb=>hb.elim) (fun _ _=>rfl) (h1.trans hl1) (fun i e x he hx=>by
   have hi : i < (xs.map (Opd.val σ)).length:=by rw [hl1]; exact (List.getElem?_eq_some_iff.1 he).1
   have hc:=List.getElem?_eq_getElem hi
   exact lentK_fz hOwn (hl2 i _ e hc he) (h2 i _ x hc hx))
  have e1 : (ops.toList.map a.eval).toArray = ops.map a.eval:=by apply Array.ext'; simp
  have hrn : (execOp a.eval o).run P w = .ok (.enter f (ops.toList.map a.eval).toArray) w:=by
   have hc:=run_callFunc (P:=P) hf (ops.map a.eval) w
   rw [e1]
   simp [execOp,ho,resolve,Act.eval,Deferred.ofValue,invoke]
   exact hc
  have hs:=sem_at hrn (fun d e=>by cases e) G.fen
  refine ⟨fun _ _=>trivial,?_⟩
  rw [hs,hrn,Oper.uponIn_enter]
  refine ⟨fun h=>(by cases h),?_⟩
  have hcc' : CallsIn Fence.wide (n - 1) P f (ops.toList.map a.eval).toArray w _:=callsIn_wide.2 hcc
  refine CallsIn.mono (F:=G.fen) (show CallsIn G.fen (n - 1) P f (ops.toList.map a.eval).toArray w _ from hcc') ?_
  rintro en w' ⟨v,F1,m1,B1,rfl,c1,wf1,hB1,hBF1,_,hm1n,hv,hO1⟩
  have c : Chg w F noBlocks w' (fun b o=>F1 b o ∧ ¬ B b):=⟨c1.os,c1.tape,c1.output,c1.size,fun b hb _=>c1.block b hb (fun h=>h),c1.shape,fun b o hbo=>⟨⟨(c1.keep b o (.inl hbo)).1,fun hb=>hBF b o hb hbo⟩,(c1.keep b o (.inl hbo)).2⟩,fun b o hbo hb _=>(c1.back b o hbo.1 hb (fun h=>h)).resolve_right hbo.2,c1.drawn⟩
  have wf' : ∀ b o,(F1 b o ∧ ¬ B b) → b < w'.heap.size:=fun b o h=>wf1 b o h.1
  have hnew : ∀ b,B1 b → w.heap.size ≤ b:=fun b hb=>(hB1 b hb).resolve_left (fun h=>h)
  let m' : Names:=fun g=>if t ≤ g ∧ g < t + top' then m1 (g - t) else m g
  have hmm : ∀ g q,m g = some q → m' g = some q:=fun g q hq=>by
   show (if t ≤ g ∧ g < t + top' then m1 (g - t) else m g) = some q
   by_cases hg : t ≤ g ∧ g < t + top'
   ·rw [hfree g hg.1 (by omega)] at hq; cases hq
   ·rw [if_neg hg]; exact hq
  have hmo : ∀ g,(g < t ∨ fm.top k' ≤ g) → m' g = m g:=fun g hg=>if_neg (by omega)
  have hmk : ∀ κ,κ < top' → m' (t + κ) = m1 κ:=fun κ hκ=>by
   show (if t ≤ t + κ ∧ t + κ < t + top' then m1 (t + κ - t) else m _) = _
   rw [if_pos ⟨by omega,by omega⟩,show t + κ - t = κ by omega]
  have hO2' : OwnL (fm.its k) w' m' B:=hOwn.stable (fun b hb=>c.block b (hlt b hb) (fun h=>h)) (fun it hit hne=>hmo _ (.inl (hr1 it hit hne)))
  have hO1' : OwnL (post.map (It.rk (t + ·))) w' m' B1:=hO1.rk_out (fun it hit hne=>⟨by have:=hpo it hit hne; show t + it.κ < nb; omega,hmk _ (hpo it hit hne)⟩)
  have hdj' : ∀ b,B1 b → ¬ B b:=fun b hb h9=>by have:=hnew b hb; have:=hlt b h9; omega
  have hOn : OwnL (fm.its k') w' m' (fun b=>B1 b ∨ B b):=(OwnL.join hO1' hO2' hdj' (fun _=>Iff.rfl)).perm hp2.symm
  refine hKk _ _ ⟨by rw [hdst]; exact hdf,fun b o=>F1 b o ∧ ¬ B b,m',?_⟩
  have base : RelF G (τ.set gh (.gho 0 [.fam (famOf fm p m0)] 0 k')) a.tmps w' (fun b o=>F1 b o ∧ ¬ B b) m':=by
   refine ⟨hR.size,hR.nle,fun t ht=>?_,fun g hg=>?_,fun g g' b hg hg' hb hb' h3 h4=>?_,wf',hR.chg.trans c (fun b hb _=>hb.elim),fun g b hg hb h3=>?_,fun i hi=>?_,hR.nlt,fun b=>B1 b ∨ B b,?_⟩
   ·by_cases e : t = gh
    ·subst e; rw [Env.set_same]; exact .gho _ _ _ _ _ _
    ·rw [Env.set_ne _ _ _ _ e]; exact (hR.slots t ht).stable c hmm
   ·rw [Env.set_ne _ _ _ _ (gh_ne hg)]
    exact (hR.blks g hg).stable c hmm (fun e=>by have:=hR.blks g hg; rw [e] at this; rw [hmo g (.inr (by omega))]; exact this) (fun b _ _ h=>h)
   ·rw [Env.set_ne _ _ _ _ (gh_ne hg)] at hb
    rw [Env.set_ne _ _ _ _ (gh_ne hg')] at hb'
    rw [hmo g (.inr (by omega))] at h3
    rw [hmo g' (.inr (by omega))] at h4
    exact hR.inj g g' b hg hg' hb hb' h3 h4
   ·rw [Env.set_ne _ _ _ _ (gh_ne hg)] at hb
    rw [hmo g (.inr (by omega))] at h3
    exact hR.own g b hg hb h3
   ·rw [Env.set_ne _ _ _ _ (gh_ne (Nat.le_add_right _ _)),hmo (nb + i) (.inr (by omega))]; exact hR.par i hi
   ·refine ⟨fun q hq=>?_,fun b hb=>?_,fun h=>(by rw [hY] at h; cases h),fun Y' hY'=>?_,hE.low⟩
    ·obtain ⟨k1,k2,k3,k4⟩:=hE.kept q hq
     have hlt':=(Array.getElem?_eq_some_iff.1 k1).1
     exact ⟨(c.block _ hlt' (fun h=>h)).trans k1,k2,fun o ho=>k3 o (c.back _ o ho hlt' (fun h=>h)),fun hb=>by rcases hb with h | h; have:=hnew _ h; omega; exact k4 h⟩
    ·rcases hb with h | h
     ·exact .inr (Nat.le_trans hR.chg.size (hnew b h))
     ·exact hE.own b h
    ·rw [hY] at hY'
     obtain rfl:=Option.some.inj hY'
     refine ⟨hlo,⟨k',?_,fun l L e k' he=>?_⟩,fun g b hg hb hm=>?_⟩
     ·rw [hj]
      refine ⟨hOn,fun b o hb ho=>?_,fun κ h3 h4=>?_,fun κ h3=>?_⟩
      ·rcases hb with hb | hb
       ·exact hBF1 b o hb ho.1
       ·exact ho.2 hb
      ·rw [hmo κ (.inr h3)]
       exact hfree κ (by omega) h4
      ·rw [hmo κ (.inl (by omega))]
       exact hm0 κ h3
     ·rw [Env.set_same] at he
      injection he with q1 q2 q3 q4
      exact ⟨by rw [← q1,hYl],by rw [← q2,hYL],by rw [← q3,hYs],q4.symm⟩
     ·rw [Env.set_ne _ _ _ _ (gh_ne hg)] at hb
      rw [hmo g (.inr (by omega))] at hm
      refine ⟨fun hB=>?_,(hdis g b hg hb hm).2⟩
      rcases hB with h | h
      ·have:=(hR.blks g hg).lt hb hm; have:=hnew b h; omega
      ·exact (hdis g b hg hb hm).1 h
  rw [hdst]
  have hv' : Fz w' (fun b o=>F1 b o ∧ ¬ B b) m1 r v:=hv.scalK hr
  refine base.slot hd (hv'.rk_out (fun κ q _ hq=>?_) (scalK_low r hr))
  have hκ : κ < top':=Classical.byContradiction fun h=>by rw [hm1n κ (by omega)] at hq; cases hq
  exact ⟨(hmk κ hκ).trans hq,by show t + κ < nb; omega⟩
theorem s_rlendR {d f k p top' : Nat} {fm : Fm} {m0 : Names} {post : List It} {es da : List D} {r rr : D} {xs : List Opd} (k' : Nat) (hc : RCalls P f [] es post top' r) (hgh : hold (σ gh) = .gho 0 [.fam (famOf fm p m0)] 0 k) (hda : hold (xs.map (Opd.val σ)) = da) (hL : LentKL (fm.its k) da es) (hrr : r.rk (fm.top k + ·) = rr) (hr : r.scalK = true) (hpt : p ≤ fm.top k)
  (hp2 : (fm.its k').Perm (post.map (It.rk (fm.top k + ·)) ++ fm.its k)) (hpo : ∀ it,it ∈ post → it.es ≠ [] → it.κ < top') (hr1 : ∀ it,it ∈ fm.its k → it.es ≠ [] → it.κ < fm.top k) (htop : fm.top k' = fm.top k + top') (hnb : fm.top k' ≤ 900000)
  (h : evG P B l (hold (Env.put [(gh,.gho 0 [.fam (famOf fm p m0)] 0 k'),(d,rr)] σ)) (hold (push ⟨rd ++ (hold (xs.flatMap Opd.rd) ++ [gh]),wr ++ [gh,d]⟩ acc)) N) : evS P B rd wr (.call d f xs) true l σ acc N:=by
 unfold hold at hda
 subst hda
 subst hrr
 refine ⟨⟨xs.flatMap Opd.rd ++ [gh],[gh,d]⟩,[(gh,.gho 0 [.fam (famOf fm p m0)] 0 k'),(d,r.rk (fm.top k + ·))],fun G hP xo o hcp=>?_,h⟩
 obtain ⟨d',hdst,hd,hcc⟩:=copc_call hcp
 obtain ⟨rfl,hf,ops,ts,ho,ha⟩:=ccall_call hcc
 exact in_rlendR hP ho hf ha hdst hd hgh hc hL hpt hp2 hpo hr1 htop hnb hr
end
end Go.Proofs.Ytclkehekhdfnnaa
