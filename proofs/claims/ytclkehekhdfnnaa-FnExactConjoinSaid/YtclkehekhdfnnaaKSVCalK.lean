/-
  A call that is handed a row of one's own, of which it changes one element; what the others hold stays, trees under keys too. No condition.
-/
import Derived.Test.YtclkehekhdfnnaaKSVRen
set_option maxHeartbeats 4000000
set_option maxRecDepth 100000
set_option linter.unusedVariables false
set_option linter.unusedSimpArgs false
namespace Go.Proofs.Ytclkehekhdfnnaa
open Go.RowKit
def rawR (n s i : Nat) (e : D) (us : List Value) : List D:=(List.range n).map fun j=>if j = i then e else .agg (((us.drop (j * s)).take s).map .v)
theorem rawR_len (n s i : Nat) (e : D) (us : List Value) : (rawR n s i e us).length = n:=by unfold rawR; rw [List.length_map,List.length_range]
theorem rawR_at {n s i j : Nat} (e : D) (us : List Value) (h : j < n) : (rawR n s i e us)[j]? = some (if j = i then e else .agg (((us.drop (j * s)).take s).map .v)):=by unfold rawR; rw [List.getElem?_map,List.getElem?_range h]; rfl
theorem vs_pur : ∀ us : List Value,D.purL (us.map .v) = true
 | []=>rfl
 | u :: us=>by rw [List.map_cons,D.purL,vs_pur us]; rfl
theorem rawR_pur {n s i : Nat} {e : D} {us : List Value} (he : e.pur = true) : D.purL (rawR n s i e us) = true:=D.purL_iff.2 fun d hd=>by
 obtain ⟨j,_,rfl⟩:=List.mem_map.1 hd
 split
 ·exact he
 ·show D.purL _ = true
  exact vs_pur _
theorem rawR_cells {n s i : Nat} {e : D} {us : List Value} (he : e.cells.length = s) (hu : us.length = n * s) : ∀ d,d ∈ rawR n s i e us → d.cells.length = s:=fun d hd=>by
 obtain ⟨j,hj,rfl⟩:=List.mem_map.1 hd
 have hj:=List.mem_range.1 hj
 split
 ·exact he
 ·show (((us.drop (j * s)).take s).map D.v).length = s
  rw [List.length_map,List.length_take,List.length_drop,hu]
  have : (j + 1) * s ≤ n * s:=Nat.mul_le_mul_right s hj
  rw [Nat.add_mul,Nat.one_mul] at this
  omega
theorem raw_cell {n s i j c : Nat} {e : D} {us : List Value} (he : e.cells.length = s) (hu : us.length = n * s) (hj : j < n) (hc : c < s) (hji : j ≠ i) : (D.flat (rawR n s i e us))[j * s + c]? = (us[j * s + c]?).map D.v:=by
 rw [flat_get (rawR_cells he hu) j c hc,rawR_at e us hj,if_neg hji]
 show (((us.drop (j * s)).take s).map D.v)[c]? = _
 rw [List.getElem?_map,List.getElem?_take_of_lt hc,List.getElem?_drop]
theorem raw_same {n s i c : Nat} {e : D} {us : List Value} (he : e.cells.length = s) (hu : us.length = n * s) (hi : i < n) (hc : c < s) : (D.flat (rawR n s i e us))[i * s + c]? = e.cells[c]?:=by
 rw [flat_get (rawR_cells he hu) i c hc,rawR_at e us hi,if_pos rfl]
 rfl
theorem div_split {q s n : Nat} (h : q < n * s) : ∃ j c,j < n ∧ c < s ∧ q = j * s + c:=by
 have hs : 0 < s:=by
  rcases Nat.eq_zero_or_pos s with h0 | h0
  ·subst h0; omega
  ·exact h0
 exact ⟨q / s,q % s,Nat.div_lt_of_lt_mul (by rw [Nat.mul_comm]; exact h),Nat.mod_lt q hs,by rw [Nat.mul_comm]; exact (Nat.div_add_mod q s).symm⟩
theorem set_cells {es : List D} {s i : Nat} {x : D} (h : ∀ d,d ∈ es → d.cells.length = s) (hx : x.cells.length = s) : ∀ d,d ∈ es.set i x → d.cells.length = s:=fun d hd=>by
 rcases List.mem_or_eq_of_mem_set hd with h' | rfl
 ·exact h d h'
 ·exact hx
theorem set_cell {es : List D} {s i j c : Nat} {x : D} (h : ∀ d,d ∈ es → d.cells.length = s) (hx : x.cells.length = s) (hc : c < s) (hi : i < es.length) : (D.flat (es.set i x))[j * s + c]? = if j = i then x.cells[c]? else (D.flat es)[j * s + c]?:=by
 rw [flat_get (set_cells h hx) j c hc,flat_get h j c hc,List.getElem?_set]
 by_cases e : i = j
 ·subst e
  rw [if_pos rfl,if_pos hi,if_pos rfl]; rfl
 ·rw [if_neg e,if_neg (fun h=>e h.symm)]
section
variable {P : Program} {G : Ctx} {σ : Env} {B : List Nat} {l : List GI} {acc : Option (List Ent)} {N : Env → Prop} {rd wr : List Nat}
theorem in_calK {o : Oper} {d f : Nat} {x : Operand} {X : Opd} {xs : List Opd} {ops : Array Operand} {ts : Array TypeId} (ho : o.op = .call { callee:=.value x,args:=ops,argTypes:=ts }) (hx : opd x = some X) (ha : ops.toList.mapM opd = some xs)
  (hdst : o.dst = some d) (hd : d < G.n) (hv : X.val σ = .fn f []) (hf : enters P f = true) {g g2 s i : Nat} {K : List D} {e hole nw r : D} {ds : List D} (hg : σ g = .row s K) (hgn : nb ≤ g) (hg2 : σ g2 = .free) (hg2n : nb ≤ g2) (hne : g ≠ g2) (hs : 0 < s)
  (hK : K[i]? = some e) (hKc : ∀ d,d ∈ K → d.cells.length = s) (hep : e.pur = true) (hnb : nw.isBlk = true) (hhc : hole.cells.length = s)
  (hck : ∀ R : List D,R.length = K.length → D.purL R = true → (∀ d,d ∈ R → d.cells.length = s) → R[i]? = some e → Does P f [.row s R] ds r [.row s (R.set i hole),nw]) (hds : xs.map (Opd.val σ) = ds.map (D.ren [g,g2])) :
  OpOK P G o (callE (X.rd ++ xs.flatMap Opd.rd) [g,g2] d) σ [(g,.row s (K.set i (hole.ren [g,g2]))),(g2,nw.ren [g,g2]),(d,r.ren [g,g2])] where
 wr q hq:=by
  simp only [List.mem_cons,List.not_mem_nil,or_false] at hq
  show q.1 ∈ [g,g2] ++ [d]
  rcases hq with rfl | rfl | rfl <;> simp
 run τ a w Kk Q hag hR hKk:=by
  obtain ⟨hdf,F,m,hR⟩:=hR
  have hag1 : ∀ t,t ∈ X.rd ++ xs.flatMap Opd.rd → τ t = σ t:=fun t ht=>hag t (List.mem_append_left _ ht)
  have hτg : τ g = .row s K:=(hag g (List.mem_append_right _ (by simp))).trans hg
  have hτ2 : τ g2 = .free:=(hag g2 (List.mem_append_right _ (by simp))).trans hg2
  have hi:=(List.getElem?_eq_some_iff.1 hK).1
  have hec : e.cells.length = s:=hKc e (List.mem_of_getElem? hK)
  have hblk:=hR.blks g hgn
  rw [hτg] at hblk
  rcases hblk with ⟨he,_⟩ | ⟨b,cur,T,hmg,hb,hs',hlen,hsz,hcc,hnF⟩
  ·rw [he] at hi; simp at hi
  obtain ⟨us,hus⟩ : ∃ us,us = cur.toList.take (K.length * s):=⟨_,rfl⟩
  rw [← hus] at hcc
  have hul : us.length = K.length * s:=by rw [hcc.len,flat_len hKc]
  obtain ⟨R,hRd⟩ : ∃ R,R = rawR K.length s i e us:=⟨_,rfl⟩
  have hRl : R.length = K.length:=by rw [hRd,rawR_len]
  have hRp : D.purL R = true:=by rw [hRd]; exact rawR_pur hep
  have hRc : ∀ d,d ∈ R → d.cells.length = s:=by rw [hRd]; exact rawR_cells hec hul
  have hRi : R[i]? = some e:=by rw [hRd,rawR_at e us hi,if_pos rfl]
  have hcell : ∀ j c,j < K.length → c < s → j ≠ i → (D.flat R)[j * s + c]? = (us[j * s + c]?).map D.v:=fun j c hj hc hji=>by rw [hRd]; exact raw_cell hec hul hj hc hji
  have hcelli : ∀ c,c < s → (D.flat R)[i * s + c]? = e.cells[c]?:=fun c hc=>by rw [hRd]; exact raw_same hec hul hi hc
  have hRcc : CellsOK w F m (D.flat R) us:=⟨by rw [hul,flat_len hRc,hRl],hcc.one,fun q d' u hd' hu=>by
   have hq : q < K.length * s:=by rw [← hul]; exact (List.getElem?_eq_some_iff.1 hu).1
   obtain ⟨j,c,hj,hc,rfl⟩:=div_split hq
   by_cases hji : j = i
   ·subst hji
    rw [hcelli c hc] at hd'
    refine hcc.fz _ d' u ?_ hu
    rw [flat_get hKc j c hc,hK]
    exact hd'
   ·rw [hcell j c hj hc hji,hu] at hd'
    obtain rfl:=Option.some.inj hd'
    exact .v m u⟩
  have hR1 : RelF G (τ.set g (.row s R)) a.tmps w F m:=hR.turn hgn (by rw [hτg]; rfl) (Chg.refl w F _) hR.wf (.inr ⟨b,cur,T,hmg,hb,hs',hRc,by rw [hRl]; exact hsz,by rw [hRl,← hus]; exact hRcc,hnF⟩) (by intro h; cases h)
  have hdo:=hck R hRl hRp hRc hRi
  have hn0 : nameOf [g,g2] (nb + 0) = some g:=nameOf_at 0
  have hn1 : nameOf [g,g2] (nb + 1) = some g2:=nameOf_at 1
  have hrenR : D.renL [g,g2] R = R:=ren_pure.renL_pure _ _ hRp
  have hrenS : D.renL [g,g2] (R.set i hole) = R.set i (hole.ren [g,g2]):=by rw [D.renL_map,List.map_set,← D.renL_map,hrenR]
  have hc' : CallOK (τ.set g (.row s R)) [g,g2] [.row s R] [.row s (R.set i hole),nw]:=⟨rfl,by simp,by simp [hne],fun y hy=>by simp at hy; rcases hy with rfl | rfl <;> assumption,fun j d' y h1 h2=>by
   cases j with
   | zero=>
    obtain rfl : D.row s R = d':=by simpa using h1
    obtain rfl : g = y:=by simpa using h2
    refine ⟨rfl,?_⟩
    rw [Env.set_same,D.ren,hrenR]
   | succ j=>simp at h1,fun j y h1 h2=>by
   rcases j with _ | _ | j
   ·simp at h1
   ·obtain rfl : g2 = y:=by simpa using h2
    rw [Env.set_ne _ _ _ _ hne.symm]; exact hτ2
   ·simp at h2⟩
  have hgX : ∀ t,t ∈ X.rd ++ xs.flatMap Opd.rd → (τ.set g (.row s R)) t = τ t ∨ t = g:=fun t _=>by
   by_cases e : t = g
   ·exact .inr e
   ·exact .inl (Env.set_ne _ _ _ _ e)
  have hso:=opd_fz hR hx (fun t ht=>hag1 t (List.mem_append_left _ ht))
  rw [hv] at hso
  have hxe : a.eval x = .func (.func f) #[] #[]:=by
   generalize a.eval x = y at hso
   cases hso with
   | fn _ f cs us hl hr=>
    have : us = []:=List.length_eq_zero_iff.1 (by simpa using hl)
    rw [this]
  obtain ⟨h1,h2⟩:=opds_fz hR ha (fun t ht=>hag1 t (List.mem_append_right _ ht))
  obtain ⟨hl,hfx⟩:=args_fz (w:=w) (F:=F) (m:=m) hds ⟨h1,h2⟩
  have hcall:=call_coreX hR1 hdo hc' hl hfx hd
  have hr : (execOp a.eval o).run P w = .ok (.enter f (ops.toList.map a.eval).toArray) w:=by
   have hc:=run_callFunc (P:=P) hf (ops.map a.eval) w
   have e1 : (ops.toList.map a.eval).toArray = ops.map a.eval:=by apply Array.ext'; simp
   rw [e1]
   simp [execOp,ho,resolve,hxe,Deferred.ofValue,invoke]
   exact hc
  intro n
  have hse:=sem_at hr (fun d e=>by cases e) G.fen
  refine ⟨fun _ _=>trivial,?_⟩
  rw [hse,hr,Oper.uponIn_enter]
  refine ⟨fun h=>(by cases h),?_⟩
  have hcc' : CallsIn Fence.wide (n - 1) P f (ops.toList.map a.eval).toArray w _:=callsIn_wide.2 hcall
  refine CallsIn.mono (F:=G.fen) (show CallsIn G.fen (n - 1) P f (ops.toList.map a.eval).toArray w _ from hcc') ?_
  rintro en w' ⟨v,rfl,F',m',hR',hm',c⟩
  refine hKk _ _ ⟨by rw [hdst]; exact hdf,F',m',?_⟩
  rw [hdst]
  have hU : callU [g,g2] [.row s (R.set i hole),nw] d r = [(g,.row s (R.set i (hole.ren [g,g2]))),(g2,nw.ren [g,g2]),(d,r.ren [g,g2])]:=by
   show [(g,(D.row s (R.set i hole)).ren [g,g2]),(g2,nw.ren [g,g2])] ++ [(d,r.ren [g,g2])] = _
   rw [D.ren,hrenS]; rfl
  rw [hU] at hR'
  have hdn : d < nb:=Nat.lt_of_lt_of_le hd hR.nle
  have hdg : d ≠ g:=by omega
  have hput : ∀ (ρ : Env) (v1 v2 v3 : D) (q : Nat),Env.put [(g,v1),(g2,v2),(d,v3)] ρ q = if q = d then v3 else if q = g2 then v2 else if q = g then v1 else ρ q:=fun ρ v1 v2 v3 q=>by
   show (((ρ.set g v1).set g2 v2).set d v3) q = _
   by_cases e1 : q = d
   ·subst e1; rw [Env.set_same,if_pos rfl]
   ·rw [Env.set_ne _ _ _ _ e1,if_neg e1]
    by_cases e2 : q = g2
    ·subst e2; rw [Env.set_same,if_pos rfl]
    ·rw [Env.set_ne _ _ _ _ e2,if_neg e2]
     by_cases e3 : q = g
     ·subst e3; rw [Env.set_same,if_pos rfl]
     ·rw [Env.set_ne _ _ _ _ e3,if_neg e3]
  have hg9 : Env.put [(g,D.row s (R.set i (hole.ren [g,g2]))),(g2,nw.ren [g,g2]),(d,r.ren [g,g2])] (τ.set g (.row s R)) g = .row s (R.set i (hole.ren [g,g2])):=by
   rw [hput,if_neg hdg.symm,if_neg hne,if_pos rfl]
  have hhr : (hole.ren [g,g2]).cells.length = s:=by
   have : ∀ e : D,(e.ren [g,g2]).cells.length = e.cells.length:=fun e=>by
    have h:=flat_renL [g,g2] [e]
    have h1 : D.flat [e] = e.cells:=by simp [D.flat]
    have h2 : D.flat (D.renL [g,g2] [e]) = (e.ren [g,g2]).cells:=by simp [D.renL,D.flat]
    rw [h1,h2] at h
    rw [h,D.renL_map,List.length_map]
   rw [this]; exact hhc
  have hblk2:=hR'.blks g hgn
  rw [hg9] at hblk2
  rcases hblk2 with ⟨he,_⟩ | ⟨b2,cur2,T2,hmg2,hb2,hs2,hlen2,hsz2,hcc2,hnF2⟩
  ·have:=congrArg List.length he
   rw [List.length_set,hRl,List.length_nil] at this
   omega
  have hmall : ∀ y q,m y = some q → m' y = some q:=hm'
  have hKl : (K.set i (hole.ren [g,g2])).length = K.length:=List.length_set ..
  have hRl2 : (R.set i (hole.ren [g,g2])).length = K.length:=by rw [List.length_set,hRl]
  have hcc3 : CellsOK w' F' m' (D.flat (K.set i (hole.ren [g,g2]))) (cur2.toList.take (K.length * s)):=by
   rw [hRl2] at hcc2
   refine ⟨by rw [hcc2.len,flat_len hlen2,flat_len (set_cells hKc hhr),hRl2,hKl],hcc2.one,fun q d' u hd' hu=>?_⟩
   have hq : q < K.length * s:=by
    have:=(List.getElem?_eq_some_iff.1 hd').1
    rw [flat_len (set_cells hKc hhr),hKl] at this
    exact this
   obtain ⟨j,c',hj,hc9,rfl⟩:=div_split hq
   rw [set_cell hKc hhr hc9 hi] at hd'
   by_cases hji : j = i
   ·rw [if_pos hji] at hd'
    refine hcc2.fz _ d' u ?_ hu
    rw [set_cell hRc hhr hc9 (by rw [hRl]; exact hi),if_pos hji]
    exact hd'
   ·rw [if_neg hji] at hd'
    have hq1 : j * s + c' < us.length:=by rw [hul]; exact hq
    have h3:=hcc2.fz (j * s + c') (.v (us[j * s + c'])) u (by
     rw [set_cell hRc hhr hc9 (by rw [hRl]; exact hi),if_neg hji,hcell j c' hj hc9 hji,List.getElem?_eq_getElem hq1]; rfl) hu
    rw [h3.v_eq]
    exact (hcc.fz _ d' _ hd' (List.getElem?_eq_getElem hq1)).stable c hmall
  have hR2:=hR'.turn hgn (by rw [hg9]; rfl) (Chg.refl w' F' _) hR'.wf (δ:=.row s (K.set i (hole.ren [g,g2]))) (.inr ⟨b2,cur2,T2,hmg2,hb2,hs2,set_cells hKc hhr,by rw [hKl]; rw [hRl2] at hsz2; exact hsz2,by rw [hKl]; exact hcc3,hnF2⟩) (by intro h; cases h)
  have hE : (Env.put [(g,D.row s (R.set i (hole.ren [g,g2]))),(g2,nw.ren [g,g2]),(d,r.ren [g,g2])] (τ.set g (.row s R))).set g (.row s (K.set i (hole.ren [g,g2]))) = Env.put [(g,.row s (K.set i (hole.ren [g,g2]))),(g2,nw.ren [g,g2]),(d,r.ren [g,g2])] τ:=by
   funext q
   rw [hput]
   by_cases e : q = g
   ·subst e
    rw [Env.set_same,if_neg hdg.symm,if_neg hne,if_pos rfl]
   ·rw [Env.set_ne _ _ _ _ e,hput,if_neg e,if_neg e,Env.set_ne _ _ _ _ e]
  rw [hE] at hR2
  exact hR2
theorem in_calK0 {o : Oper} {d f : Nat} {x : Operand} {X : Opd} {xs : List Opd} {ops : Array Operand} {ts : Array TypeId} (ho : o.op = .call { callee:=.value x,args:=ops,argTypes:=ts }) (hx : opd x = some X) (ha : ops.toList.mapM opd = some xs)
  (hdst : o.dst = some d) (hd : d < G.n) (hv : X.val σ = .fn f []) (hf : enters P f = true) {g s i : Nat} {K : List D} {e hole r : D} {ds : List D} (hg : σ g = .row s K) (hgn : nb ≤ g) (hs : 0 < s)
  (hK : K[i]? = some e) (hKc : ∀ d,d ∈ K → d.cells.length = s) (hep : e.pur = true) (hhc : hole.cells.length = s)
  (hck : ∀ R : List D,R.length = K.length → D.purL R = true → (∀ d,d ∈ R → d.cells.length = s) → R[i]? = some e → Does P f [.row s R] ds r [.row s (R.set i hole)]) (hds : xs.map (Opd.val σ) = ds.map (D.ren [g])) :
  OpOK P G o (callE (X.rd ++ xs.flatMap Opd.rd) [g] d) σ [(g,.row s (K.set i (hole.ren [g]))),(d,r.ren [g])] where
 wr q hq:=by
  simp only [List.mem_cons,List.not_mem_nil,or_false] at hq
  show q.1 ∈ [g] ++ [d]
  rcases hq with rfl | rfl <;> simp
 run τ a w Kk Q hag hR hKk:=by
  obtain ⟨hdf,F,m,hR⟩:=hR
  have hag1 : ∀ t,t ∈ X.rd ++ xs.flatMap Opd.rd → τ t = σ t:=fun t ht=>hag t (List.mem_append_left _ ht)
  have hτg : τ g = .row s K:=(hag g (List.mem_append_right _ (by simp))).trans hg
  have hi:=(List.getElem?_eq_some_iff.1 hK).1
  have hec : e.cells.length = s:=hKc e (List.mem_of_getElem? hK)
  have hblk:=hR.blks g hgn
  rw [hτg] at hblk
  rcases hblk with ⟨he,_⟩ | ⟨b,cur,T,hmg,hb,hs',hlen,hsz,hcc,hnF⟩
  ·rw [he] at hi; simp at hi
  obtain ⟨us,hus⟩ : ∃ us,us = cur.toList.take (K.length * s):=⟨_,rfl⟩
  rw [← hus] at hcc
  have hul : us.length = K.length * s:=by rw [hcc.len,flat_len hKc]
  obtain ⟨R,hRd⟩ : ∃ R,R = rawR K.length s i e us:=⟨_,rfl⟩
  have hRl : R.length = K.length:=by rw [hRd,rawR_len]
  have hRp : D.purL R = true:=by rw [hRd]; exact rawR_pur hep
  have hRc : ∀ d,d ∈ R → d.cells.length = s:=by rw [hRd]; exact rawR_cells hec hul
  have hRi : R[i]? = some e:=by rw [hRd,rawR_at e us hi,if_pos rfl]
  have hcell : ∀ j c,j < K.length → c < s → j ≠ i → (D.flat R)[j * s + c]? = (us[j * s + c]?).map D.v:=fun j c hj hc hji=>by rw [hRd]; exact raw_cell hec hul hj hc hji
  have hcelli : ∀ c,c < s → (D.flat R)[i * s + c]? = e.cells[c]?:=fun c hc=>by rw [hRd]; exact raw_same hec hul hi hc
  have hRcc : CellsOK w F m (D.flat R) us:=⟨by rw [hul,flat_len hRc,hRl],hcc.one,fun q d' u hd' hu=>by
   have hq : q < K.length * s:=by rw [← hul]; exact (List.getElem?_eq_some_iff.1 hu).1
   obtain ⟨j,c,hj,hc,rfl⟩:=div_split hq
   by_cases hji : j = i
   ·subst hji
    rw [hcelli c hc] at hd'
    refine hcc.fz _ d' u ?_ hu
    rw [flat_get hKc j c hc,hK]
    exact hd'
   ·rw [hcell j c hj hc hji,hu] at hd'
    obtain rfl:=Option.some.inj hd'
    exact .v m u⟩
  have hR1 : RelF G (τ.set g (.row s R)) a.tmps w F m:=hR.turn hgn (by rw [hτg]; rfl) (Chg.refl w F _) hR.wf (.inr ⟨b,cur,T,hmg,hb,hs',hRc,by rw [hRl]; exact hsz,by rw [hRl,← hus]; exact hRcc,hnF⟩) (by intro h; cases h)
  have hdo:=hck R hRl hRp hRc hRi
  have hn0 : nameOf [g] (nb + 0) = some g:=nameOf_at 0
  have hrenR : D.renL [g] R = R:=ren_pure.renL_pure _ _ hRp
  have hrenS : D.renL [g] (R.set i hole) = R.set i (hole.ren [g]):=by rw [D.renL_map,List.map_set,← D.renL_map,hrenR]
  have hc' : CallOK (τ.set g (.row s R)) [g] [.row s R] [.row s (R.set i hole)]:=⟨rfl,by simp,by simp,fun y hy=>by simp at hy; subst hy; assumption,fun j d' y h1 h2=>by
   cases j with
   | zero=>
    obtain rfl : D.row s R = d':=by simpa using h1
    obtain rfl : g = y:=by simpa using h2
    refine ⟨rfl,?_⟩
    rw [Env.set_same,D.ren,hrenR]
   | succ j=>simp at h1,fun j y h1 h2=>by
   rcases j with _ | j
   ·simp at h1
   ·simp at h2⟩
  have hgX : ∀ t,t ∈ X.rd ++ xs.flatMap Opd.rd → (τ.set g (.row s R)) t = τ t ∨ t = g:=fun t _=>by
   by_cases e : t = g
   ·exact .inr e
   ·exact .inl (Env.set_ne _ _ _ _ e)
  have hso:=opd_fz hR hx (fun t ht=>hag1 t (List.mem_append_left _ ht))
  rw [hv] at hso
  have hxe : a.eval x = .func (.func f) #[] #[]:=by
   generalize a.eval x = y at hso
   cases hso with
   | fn _ f cs us hl hr=>
    have : us = []:=List.length_eq_zero_iff.1 (by simpa using hl)
    rw [this]
  obtain ⟨h1,h2⟩:=opds_fz hR ha (fun t ht=>hag1 t (List.mem_append_right _ ht))
  obtain ⟨hl,hfx⟩:=args_fz (w:=w) (F:=F) (m:=m) hds ⟨h1,h2⟩
  have hcall:=call_coreX hR1 hdo hc' hl hfx hd
  have hr : (execOp a.eval o).run P w = .ok (.enter f (ops.toList.map a.eval).toArray) w:=by
   have hc:=run_callFunc (P:=P) hf (ops.map a.eval) w
   have e1 : (ops.toList.map a.eval).toArray = ops.map a.eval:=by apply Array.ext'; simp
   rw [e1]
   simp [execOp,ho,resolve,hxe,Deferred.ofValue,invoke]
   exact hc
  intro n
  have hse:=sem_at hr (fun d e=>by cases e) G.fen
  refine ⟨fun _ _=>trivial,?_⟩
  rw [hse,hr,Oper.uponIn_enter]
  refine ⟨fun h=>(by cases h),?_⟩
  have hcc' : CallsIn Fence.wide (n - 1) P f (ops.toList.map a.eval).toArray w _:=callsIn_wide.2 hcall
  refine CallsIn.mono (F:=G.fen) (show CallsIn G.fen (n - 1) P f (ops.toList.map a.eval).toArray w _ from hcc') ?_
  rintro en w' ⟨v,rfl,F',m',hR',hm',c⟩
  refine hKk _ _ ⟨by rw [hdst]; exact hdf,F',m',?_⟩
  rw [hdst]
  have hU : callU [g] [.row s (R.set i hole)] d r = [(g,.row s (R.set i (hole.ren [g]))),(d,r.ren [g])]:=by
   show [(g,(D.row s (R.set i hole)).ren [g])] ++ [(d,r.ren [g])] = _
   rw [D.ren,hrenS]; rfl
  rw [hU] at hR'
  have hdn : d < nb:=Nat.lt_of_lt_of_le hd hR.nle
  have hdg : d ≠ g:=by omega
  have hput : ∀ (ρ : Env) (v1 v3 : D) (q : Nat),Env.put [(g,v1),(d,v3)] ρ q = if q = d then v3 else if q = g then v1 else ρ q:=fun ρ v1 v3 q=>by
   show ((ρ.set g v1).set d v3) q = _
   by_cases e1 : q = d
   ·subst e1; rw [Env.set_same,if_pos rfl]
   ·rw [Env.set_ne _ _ _ _ e1,if_neg e1]
    by_cases e3 : q = g
    ·subst e3; rw [Env.set_same,if_pos rfl]
    ·rw [Env.set_ne _ _ _ _ e3,if_neg e3]
  have hg9 : Env.put [(g,D.row s (R.set i (hole.ren [g]))),(d,r.ren [g])] (τ.set g (.row s R)) g = .row s (R.set i (hole.ren [g])):=by
   rw [hput,if_neg hdg.symm,if_pos rfl]
  have hhr : (hole.ren [g]).cells.length = s:=by
   have : ∀ e : D,(e.ren [g]).cells.length = e.cells.length:=fun e=>by
    have h:=flat_renL [g] [e]
    have h1 : D.flat [e] = e.cells:=by simp [D.flat]
    have h2 : D.flat (D.renL [g] [e]) = (e.ren [g]).cells:=by simp [D.renL,D.flat]
    rw [h1,h2] at h
    rw [h,D.renL_map,List.length_map]
   rw [this]; exact hhc
  have hblk2:=hR'.blks g hgn
  rw [hg9] at hblk2
  rcases hblk2 with ⟨he,_⟩ | ⟨b2,cur2,T2,hmg2,hb2,hs2,hlen2,hsz2,hcc2,hnF2⟩
  ·have:=congrArg List.length he
   rw [List.length_set,hRl,List.length_nil] at this
   omega
  have hmall : ∀ y q,m y = some q → m' y = some q:=hm'
  have hKl : (K.set i (hole.ren [g])).length = K.length:=List.length_set ..
  have hRl2 : (R.set i (hole.ren [g])).length = K.length:=by rw [List.length_set,hRl]
  have hcc3 : CellsOK w' F' m' (D.flat (K.set i (hole.ren [g]))) (cur2.toList.take (K.length * s)):=by
   rw [hRl2] at hcc2
   refine ⟨by rw [hcc2.len,flat_len hlen2,flat_len (set_cells hKc hhr),hRl2,hKl],hcc2.one,fun q d' u hd' hu=>?_⟩
   have hq : q < K.length * s:=by
    have:=(List.getElem?_eq_some_iff.1 hd').1
    rw [flat_len (set_cells hKc hhr),hKl] at this
    exact this
   obtain ⟨j,c',hj,hc9,rfl⟩:=div_split hq
   rw [set_cell hKc hhr hc9 hi] at hd'
   by_cases hji : j = i
   ·rw [if_pos hji] at hd'
    refine hcc2.fz _ d' u ?_ hu
    rw [set_cell hRc hhr hc9 (by rw [hRl]; exact hi),if_pos hji]
    exact hd'
   ·rw [if_neg hji] at hd'
    have hq1 : j * s + c' < us.length:=by rw [hul]; exact hq
    have h3:=hcc2.fz (j * s + c') (.v (us[j * s + c'])) u (by
     rw [set_cell hRc hhr hc9 (by rw [hRl]; exact hi),if_neg hji,hcell j c' hj hc9 hji,List.getElem?_eq_getElem hq1]; rfl) hu
    rw [h3.v_eq]
    exact (hcc.fz _ d' _ hd' (List.getElem?_eq_getElem hq1)).stable c hmall
  have hR2:=hR'.turn hgn (by rw [hg9]; rfl) (Chg.refl w' F' _) hR'.wf (δ:=.row s (K.set i (hole.ren [g]))) (.inr ⟨b2,cur2,T2,hmg2,hb2,hs2,set_cells hKc hhr,by rw [hKl]; rw [hRl2] at hsz2; exact hsz2,by rw [hKl]; exact hcc3,hnF2⟩) (by intro h; cases h)
  have hE : (Env.put [(g,D.row s (R.set i (hole.ren [g]))),(d,r.ren [g])] (τ.set g (.row s R))).set g (.row s (K.set i (hole.ren [g]))) = Env.put [(g,.row s (K.set i (hole.ren [g]))),(d,r.ren [g])] τ:=by
   funext q
   rw [hput]
   by_cases e : q = g
   ·subst e
    rw [Env.set_same,if_neg hdg.symm,if_pos rfl]
   ·rw [Env.set_ne _ _ _ _ e,hput,if_neg e,if_neg e,Env.set_ne _ _ _ _ e]
  rw [hE] at hR2
  exact hR2
theorem s_calK {d f : Nat} {X : Opd} {xs : List Opd} {g g2 s i : Nat} {K : List D} {e hole nw r : D} {ds : List D} (hv : X.val σ = .fn f []) (hf : enters P f = true) (hg : σ g = .row s K) (hgn : nb ≤ g) (hg2 : σ g2 = .free) (hg2n : nb ≤ g2) (hne : g ≠ g2) (hs : 0 < s)
  (hK : K[i]? = some e) (hKc : ∀ d,d ∈ K → d.cells.length = s) (hep : e.pur = true) (hnb : nw.isBlk = true) (hhc : hole.cells.length = s)
  (hck : ∀ R : List D,R.length = K.length → D.purL R = true → (∀ d,d ∈ R → d.cells.length = s) → R[i]? = some e → Does P f [.row s R] ds r [.row s (R.set i hole),nw]) (hds : xs.map (Opd.val σ) = ds.map (D.ren [g,g2]))
  (h : evG P B l (hold (Env.put [(g,.row s (K.set i (hole.ren [g,g2]))),(g2,nw.ren [g,g2]),(d,r.ren [g,g2])] σ)) (hold (push ⟨rd ++ (callE (X.rd ++ xs.flatMap Opd.rd) [g,g2] d).rd,wr ++ (callE (X.rd ++ xs.flatMap Opd.rd) [g,g2] d).wr⟩ acc)) N) : evS P B rd wr (.cal d X xs) true l σ acc N:=by
 refine ⟨callE (X.rd ++ xs.flatMap Opd.rd) [g,g2] d,[(g,.row s (K.set i (hole.ren [g,g2]))),(g2,nw.ren [g,g2]),(d,r.ren [g,g2])],fun G _ xo o hcp=>?_,h⟩
 obtain ⟨d',hdst,hd,hcc⟩:=copc_call hcp
 obtain ⟨rfl,y,ops,ts,ho,hy,ha⟩:=ccall_cal hcc
 exact in_calK ho hy ha hdst hd hv hf hg hgn hg2 hg2n hne hs hK hKc hep hnb hhc hck hds
theorem s_calK0 {d f : Nat} {X : Opd} {xs : List Opd} {g s i : Nat} {K : List D} {e hole r : D} {ds : List D} (hv : X.val σ = .fn f []) (hf : enters P f = true) (hg : σ g = .row s K) (hgn : nb ≤ g) (hs : 0 < s)
  (hK : K[i]? = some e) (hKc : ∀ d,d ∈ K → d.cells.length = s) (hep : e.pur = true) (hhc : hole.cells.length = s)
  (hck : ∀ R : List D,R.length = K.length → D.purL R = true → (∀ d,d ∈ R → d.cells.length = s) → R[i]? = some e → Does P f [.row s R] ds r [.row s (R.set i hole)]) (hds : xs.map (Opd.val σ) = ds.map (D.ren [g]))
  (h : evG P B l (hold (Env.put [(g,.row s (K.set i (hole.ren [g]))),(d,r.ren [g])] σ)) (hold (push ⟨rd ++ (callE (X.rd ++ xs.flatMap Opd.rd) [g] d).rd,wr ++ (callE (X.rd ++ xs.flatMap Opd.rd) [g] d).wr⟩ acc)) N) : evS P B rd wr (.cal d X xs) true l σ acc N:=by
 refine ⟨callE (X.rd ++ xs.flatMap Opd.rd) [g] d,[(g,.row s (K.set i (hole.ren [g]))),(d,r.ren [g])],fun G _ xo o hcp=>?_,h⟩
 obtain ⟨d',hdst,hd,hcc⟩:=copc_call hcp
 obtain ⟨rfl,y,ops,ts,ho,hy,ha⟩:=ccall_cal hcc
 exact in_calK0 ho hy ha hdst hd hv hf hg hgn hs hK hKc hep hhc hck hds
end
end Go.Proofs.Ytclkehekhdfnnaa
