/-
  Code that is handed a tree of one's own, its root a row under a name, the trees of its cells under keys. No condition.
-/
import Derived.Test.YtclkehekhdfnnaaKSVRegL
import Derived.Test.YtclkehekhdfnnaaKSVRegF
import Derived.Test.YtclkehekhdfnnaaKSVRen
set_option maxHeartbeats 4000000
set_option maxRecDepth 100000
set_option linter.unusedVariables false
set_option linter.unusedSimpArgs false
namespace Go.Proofs.Ytclkehekhdfnnaa
open Go.RowKit
def entRR (St : Nat → World → Cells → Names → Blocks → Prop) (s n k : Nat) (es2 ds : List D) : Env:=(ent [.row s es2] (.own 1000000 s n :: ds)).set gh (.gho 0 [.fam St] 0 k)
attribute [go_sem] entRR
def FinRR (rs : List Res) (r : D) (fm : Fm) (p : Nat) (m0 : Names) (k1 s : Nat) (es2' : List D) (τ : Env) : Prop:=∃ τ',Wk 1 τ τ' ∧ FinYC rs r 0 [.fam (famOf fm p m0)] 0 k1 τ' ∧ hold (τ' 1000000) = .row s es2'
theorem fin_RR {σ : Env} {rs : List Res} {r : D} {fm : Fm} {p k1 s : Nat} {m0 : Names} {es2' : List D} (hgh : hold (σ gh) = .gho 0 [.fam (famOf fm p m0)] 0 k1) (hok : hold (resOk σ rs)) (hres : hold (resD σ rs) = r) (hrow : hold (σ 1000000) = .row s es2') : FinRR rs r fm p m0 k1 s es2' σ:=⟨σ,Wk.refl 1 σ,⟨hgh,hok,hres⟩,hrow⟩
structure Keyed (key : Nat → Nat) (s : Nat) (es es2 : List D) : Prop where
 len : es2.length = es.length
 cells : ∀ (e : D),e ∈ es → e.cells.length = s
 cells2 : ∀ (e : D),e ∈ es2 → e.cells.length = s
 at' : ∀ (j : Nat) (d : D),(D.flat es)[j]? = some d → treC d = true ∧ (D.flat es2)[j]? = some (kC (key j) d)
theorem Keyed.flat {key : Nat → Nat} {s : Nat} {es es2 : List D} (h : Keyed key s es es2) : (D.flat es2).length = (D.flat es).length:=by rw [flat_len h.cells,flat_len h.cells2,h.len]
def treeC (cs : List D) (j : Nat) : Prop:=∃ s es,cs[j]? = some (.sl s es) ∧ es ≠ []
theorem cells_ownK {w : World} {m : Names} {key : Nat → Nat} {Bs : Nat → Blocks} {us0 : List Value} {cs0 : List D} (hm : ∀ j,treeC cs0 j → key j < nb ∧ m (key j) = bndOf us0 j) : ∀ (cs : List D) (us : List Value) (j : Nat),cs0.drop j = cs → us0.drop j = us → us.length = cs.length → (∀ (k : Nat) (d : D) (u : Value),cs[k]? = some d → us[k]? = some u → treC d = true ∧ Sep w (Bs (j + k)) d u) →
  (∀ i i' b,i < cs.length → i' < cs.length → Bs (j + i) b → Bs (j + i') b → i = i') → OwnL (itsC key j cs) w m (fun c=>∃ k,k < cs.length ∧ Bs (j + k) c)
 | [],us,j,_,_,_,_,_=>fun b ⟨k,hk,_⟩=>by simp at hk
 | d :: cs,[],j,_,_,hl,_,_=>by simp at hl
 | d :: cs,u :: us,j,hc,hu,hl,hf,hd=>by
  obtain ⟨ht,hs⟩:=hf 0 d u rfl rfl
  rw [Nat.add_zero] at hs
  have huj : us0[j]? = some u:=by
   have : (us0.drop j)[0]? = some u:=by rw [hu]; rfl
   rw [List.getElem?_drop,Nat.add_zero] at this
   exact this
  have hcj : cs0[j]? = some d:=by
   have : (cs0.drop j)[0]? = some d:=by rw [hc]; rfl
   rw [List.getElem?_drop,Nat.add_zero] at this
   exact this
  have ih:=cells_ownK hm cs us (j + 1) (by rw [← List.drop_drop,hc]; rfl) (by rw [← List.drop_drop,hu]; rfl) (by simpa using hl) (fun k d u hd hu=>by
   have:=hf (k + 1) d u (by simpa using hd) (by simpa using hu)
   rw [show j + (k + 1) = j + 1 + k by omega] at this
   exact this) (fun i i' b hi hi' hb hb'=>by
   rw [show j + 1 + i = j + (i + 1) by omega] at hb
   rw [show j + 1 + i' = j + (i' + 1) by omega] at hb'
   have:=hd (i + 1) (i' + 1) b (by simpa using hi) (by simpa using hi') hb hb'
   omega)
  have h0 : OwnL (itC (key j) d) w m (Bs j):=by
   cases d with
   | v x=>
    cases hs with
    | v _ _ hB=>exact hB
   | sl s es=>
    refine ⟨Bs j,noBlocks,?_,fun _ hb=>hb,fun _ _ hb=>hb,fun b=>⟨.inl,fun h=>h.elim id (fun h=>h.elim)⟩⟩
    cases hs with
    | sl0 _ _ a cap hB=>exact .inl ⟨rfl,hB⟩
    | sl _ Bs' _ _ b cap cur T hs h0 hle hlen hb hcap h1 hr hd' hn hB=>
     obtain ⟨k1,k2⟩:=hm j ⟨s,es,hcj,h0⟩
     refine .inr ⟨h0,k1,b,cap,?_,.sl _ Bs' s es b cap cur T hs h0 hle hlen hb hcap h1 hr hd' hn hB⟩
     show m (key j) = _
     rw [k2]
     unfold bndOf
     rw [huj]
   | _=>cases ht
  rw [itsC]
  refine OwnL.join h0 ih (fun b hb ⟨k,hk,hb'⟩=>?_) (fun b=>?_)
  ·rw [show j + 1 + k = j + (k + 1) by omega] at hb'
   have:=hd 0 (k + 1) b (by simp) (by simpa using hk) hb hb'
   omega
  ·constructor
   ·rintro ⟨k,hk,hb⟩
    cases k with
    | zero=>exact .inl hb
    | succ k=>exact .inr ⟨k,by simpa using hk,by rw [show j + 1 + k = j + (k + 1) by omega]; exact hb⟩
   ·rintro (hb | ⟨k,hk,hb⟩)
    ·exact ⟨0,by simp,hb⟩
    ·exact ⟨k + 1,by simpa using hk,by rw [show j + (k + 1) = j + 1 + k by omega]; exact hb⟩
theorem rcalls_row {P : Program} {xo : List Nat} {f : FuncId} {n : Nat} {dc : DC} {rs : List Res} (hc : cfun P xo f = some (n,dc,rs)) (hm : P.follows .mixedOrders = true) {s : Nat} {es es2 es' es2' ds : List D} {r : D} (key : Nat → Nat) (p : Nat) (fm : Fm) (k0 k1 : Nat) (hl : ds.length + 1 ≤ n) (h0 : es ≠ []) (h0' : es' ≠ []) (hle' : es'.length = es.length) (hfl' : (D.flat es').length = (D.flat es).length) (hK : Keyed key s es es2) (hK' : Keyed key s es' es2') (hds : D.purL ds = true) (hr : r.scal = true)
  (ht0 : fm.top k0 = p) (hkl : ∀ j,treeC (D.flat es) j → key j < p) (hki : ∀ j j',treeC (D.flat es) j → treeC (D.flat es) j' → key j = key j' → j = j') (hi0 : (fm.its k0).Perm (itsC key 0 (D.flat es))) (hi1 : (fm.its k1).Perm (itsC key 0 (D.flat es'))) (hfn : p ≤ 900000)
  (hd : ∀ m0,dwp P 1 dc (hold (entRR (famOf fm p m0) s es.length k0 es2 ds)) (FinRR rs r fm p m0 k1 s es2') (fun _ _=>False) (FinRR rs r fm p m0 k1 s es2')) :
  RCalls P f [⟨0,s,es⟩] (.kow 0 s es.length :: ds) [⟨0,s,es'⟩] 1 r:=by
 unfold cfun at hc
 split at hc
 rotate_left
 ·cases hc
 rename_i fn hf
 split at hc
 rotate_left
 ·cases hc
 rename_i c hb
 simp only [Option.bind_eq_some_iff,oif_some,Option.some.injEq,Prod.mk.injEq,decide_eq_true_eq] at hc
 obtain ⟨dc',hdc,rs',hrs,hnb,rfl,rfl,rfl⟩:=hc
 intro w F m B xs hwf hO hBF hmn hxl hfz
 have hn1 : nb = 1000000:=rfl
 have hg1 : gh = 999999:=rfl
 obtain ⟨B1,B2,ht,hO2,hdj,hBB⟩:=hO
 rcases ht with ⟨h,_⟩ | ⟨_,hκ,b,cap0,hmg,hsep⟩
 ·exact absurd h h0
 have hmg : m 0 = some (some b):=hmg
 have hsep : Sep w B1 (.sl s es) (.slice (some ⟨b,0,none⟩) es.length cap0):=hsep
 obtain ⟨x0,hx0⟩ : ∃ x0,xs[0]? = some x0:=⟨_,List.getElem?_eq_getElem (by rw [hxl]; exact Nat.zero_lt_succ _)⟩
 have hk0:=hfz 0 _ x0 rfl hx0
 obtain ⟨cap,hx0e,hlec,hcap'⟩ : ∃ cap,x0 = .slice (some ⟨b,0,none⟩) es.length cap ∧ es.length ≤ cap ∧ ∀ cur T,w.heap[b]? = some (.cells cur T (0,0)) → cap * s ≤ cur.size:=by
  generalize hel : es.length = n at hk0
  cases hk0 with
  | kow _ _ _ _ b2 cap cur2 T2 hκ2 hg2 hs2 hle2 hb2 hcap2=>
   rw [hmg] at hg2
   obtain rfl : b = b2:=by injection hg2 with hg2; injection hg2
   exact ⟨cap,rfl,hle2,fun cur T hb=>by
    rw [hb2] at hb
    obtain ⟨rfl,_⟩ : cur2 = cur ∧ T2 = T:=by injection hb with hb; injection hb with h1 h2; exact ⟨h1,h2⟩
    exact hcap2⟩
 generalize hel : es.length = n0 at hsep
 cases hsep with
 | sl0 _ _ _ _ _=>exact absurd rfl h0
 | sl _ Bs _ _ _ _ cur T hs _ hle hlen hbk hcap h1 hr1 hd1 hn hB=>
 have hcap2:=hcap' cur T hbk
 have hfl : (D.flat es).length = es.length * s:=flat_len hlen
 have hml : es.length * s ≤ cur.size:=Nat.le_trans (Nat.mul_le_mul_right s hle) hcap
 obtain ⟨us,hus⟩ : ∃ us,us = cur.toList.take (es.length * s):=⟨_,rfl⟩
 rw [← hus] at h1 hr1
 have hul : us.length = (D.flat es).length:=by
  have hcl : cur.toList.length = cur.size:=rfl
  rw [hus,List.length_take,hfl]
  omega
 obtain ⟨mm,hmb,hmk,hmo⟩ : ∃ mm : Names,mm nb = some (some b) ∧ (∀ j,treeC (D.flat es) j → mm (key j) = bndOf us j) ∧ ∀ g,g ≠ nb → p ≤ g → mm g = none:=by
  classical
  refine ⟨fun g=>if g = nb then some (some b) else if h : ∃ j,treeC (D.flat es) j ∧ key j = g then bndOf us (Classical.choose h) else none,if_pos rfl,fun j hj=>?_,fun g h2 h3=>?_⟩
  ·have hlt:=hkl j hj
   have hex : ∃ j',treeC (D.flat es) j' ∧ key j' = key j:=⟨j,hj,rfl⟩
   show (if key j = nb then some (some b) else if h : ∃ j',treeC (D.flat es) j' ∧ key j' = key j then bndOf us (Classical.choose h) else none) = _
   rw [if_neg (by omega),dif_pos hex]
   have hch:=Classical.choose_spec hex
   rw [hki _ _ hch.1 hj hch.2]
  ·show (if g = nb then some (some b) else if h : ∃ j,treeC (D.flat es) j ∧ key j = g then bndOf us (Classical.choose h) else none) = _
   rw [if_neg h2,dif_neg (fun ⟨j,hj,e⟩=>by have:=hkl j hj; omega)]
 have hBb : B b:=(hBB b).2 (.inl ((hB b).2 (.inl rfl)))
 have hBe : ∀ c,B c ↔ c = b ∨ ∃ k,k < (D.flat es).length ∧ Bs (0 + k) c:=fun c=>(hBB c).trans ⟨fun h=>h.elim (fun h=>by simpa using (hB c).1 h) (fun h=>(hO2 c h).elim),fun h=>.inl ((hB c).2 (by simpa using h))⟩
 have hOk : OwnL (itsC key 0 (D.flat es)) w mm (fun c=>∃ k,k < (D.flat es).length ∧ Bs (0 + k) c):=
  cells_ownK (us0:=us) (cs0:=D.flat es) (fun j hj=>⟨by have:=hkl j hj; omega,hmk j hj⟩) (D.flat es) us 0 rfl rfl hul (fun k d u hk hu=>by rw [Nat.zero_add]; exact ⟨(hK.at' k d hk).1,hr1 k d u hk hu⟩) (fun i i' c hi hi' h2 h3=>hd1 i i' c hi hi' (by rw [Nat.zero_add] at h2; exact h2) (by rw [Nat.zero_add] at h3; exact h3))
 refine (callsIn_wide (n:=3)).1 (callsIn_of_wp_marks hf hb trivial ?_)
 obtain ⟨q,hq⟩ : ∃ q,q = (D.flat es).length:=⟨_,rfl⟩
 rw [← hq] at hfl' hOk hBe
 have hBlt : ∀ {k : Nat} {w : World} {F : Cells} {m' : Names} {B : Blocks},famOf fm p mm k w F m' B → ∀ b,B b → b < w.heap.size:=fun h b hb=>by
  obtain ⟨cur,T,hrow⟩:=h.1.row b hb
  exact (Array.getElem?_eq_some_iff.1 hrow).1
 let Y : YC:={
  P:=P,l:=0,L:=[.fam (famOf fm p mm)],stop:=0,lo:=0,J:=famOf fm p mm
  lt:=fun k w F m' B h=>⟨Nat.zero_le _,hBlt h⟩
  stable:=fun k w F m1 m2 B T w' F' h hc wf hT hlow=>by
   have hlt:=hBlt h
   obtain ⟨q1,q2,q3,q4⟩:=h
   refine ⟨q1.stable (fun b hb=>hc.block b (hlt b hb) (fun ht=>(hT b ht).1 hb)) (fun it hit hne=>hlow _ (q1.bound it hit hne).1),fun b o hb ho=>q2 b o hb (hc.back b o ho (hlt b hb) (fun ht=>(hT b ht).1 hb)),fun κ h1 h2=>(hlow κ h2).trans (q3 κ h1 h2),fun κ h1=>(hlow κ (by omega)).trans (q4 κ h1)⟩
  fam:=fun St h=>by
   injection h with h _
   exact ⟨by injection h,rfl⟩
  ig:=fun h=>absurd rfl (h _)
  call:=fun k w F m' B es xs hJ _ _ hL _ _ _=>by
   cases k with
   | zero=>cases hL
   | succ k=>cases hL }
 have hJ : Y.J k0 w F mm (fun c=>∃ k,k < q ∧ Bs (0 + k) c):=⟨hOk.perm hi0.symm,fun c o hc ho=>hBF c o ((hBe c).2 (.inr hc)) ho,fun κ h2 h3=>hmo κ (by omega) (by omega),fun κ _=>rfl⟩
 let G : Ctx:={ n:=fn.ntmps,w0:=w,F0:=F,R0:=B,k:=1,m0:=mm,Y:=some Y }
 have hgetx : ∀ t,(xs.toArray ++ Array.replicate (fn.ntmps - xs.toArray.size) undef).getD t undef = xs.getD t undef:=by
  intro t
  simp only [Array.getD_eq_getD_getElem?,List.getD_eq_getElem?_getD]
  by_cases ht : t < xs.length
  ·rw [Array.getElem?_append_left (by simpa using ht)]
   simp
  ·rw [Array.getElem?_append_right (by simpa using ht),Array.getElem?_replicate,List.getElem?_eq_none (by omega)]
   split <;> rfl
 obtain ⟨dd,hdd⟩ : ∃ dd,dd = D.own 1000000 s es.length :: ds:=⟨_,rfl⟩
 have hddl : dd.length = xs.length:=by rw [hdd,hxl]; rfl
 obtain ⟨σ,hσ⟩ : ∃ σ,σ = entRR (famOf fm p mm) s es.length k0 es2 ds:=⟨_,rfl⟩
 have hslot : ∀ t,t < nb → t ≠ gh → σ t = if t < dd.length then dd.getD t .any else .any:=by
  intro t ht hne
  rw [hσ]
  unfold entRR
  rw [Env.set_ne _ _ _ _ hne,← hdd]
  unfold ent
  rw [entL_at,entL_at]
  by_cases h : t < dd.length
  ·rw [if_pos ⟨Nat.zero_le _,by omega⟩,if_pos h]; simp
  ·rw [if_neg (by omega),if_neg (by omega),if_neg h]; unfold base; rw [if_pos ht]
 have hslen : dd.length ≤ gh:=by
  have : xs.length = ds.length + 1:=hxl
  have h8 : ds.length + 1 ≤ 999999:=Nat.le_trans hl hnb
  omega
 have hgh0 : σ gh = .gho 0 [.fam (famOf fm p mm)] 0 k0:=by rw [hσ]; unfold entRR; exact Env.set_same _ _ _
 have hnm0 : σ nb = .row s es2:=by
  rw [hσ]
  unfold entRR
  rw [Env.set_ne _ _ _ _ (by omega),← hdd]
  unfold ent
  rw [entL_at,entL_at,if_neg (by omega),if_pos ⟨Nat.le_refl _,Nat.lt_succ_self _⟩]
  rw [Nat.sub_self]; rfl
 have hnm : ∀ g,nb < g → σ g = .free:=by
  intro g hg
  rw [hσ]
  unfold entRR
  rw [Env.set_ne _ _ _ _ (by omega),← hdd]
  unfold ent
  rw [entL_at,entL_at,if_neg (by omega),if_neg (by show ¬ (nb ≤ g ∧ g < nb + 1); omega)]
  unfold base
  rw [if_neg (by omega),if_neg (by omega)]
 have hisb : ∀ g,nb ≤ g → (σ g).isBlk = true → g = nb:=fun g hg h=>Classical.byContradiction fun e=>by rw [hnm g (by omega)] at h; cases h
 have hR0 : Rel G σ { tmps:=xs.toArray ++ Array.replicate (fn.ntmps - xs.toArray.size) undef,defers:=[] } w:=by
  refine ⟨rfl,F,mm,?_,Nat.le_trans hnb (by decide),fun t ht=>?_,fun g hg=>?_,fun g g' b hg hg' h1 h2 h3 h4=>?_,hwf,Chg.refl w F _,fun g b' hg h1 h2=>?_,fun i hi=>?_,hnb,(fun c=>∃ k,k < q ∧ Bs (0 + k) c),fun p hp=>(by cases hp),fun b hb=>.inl ((hBe b).2 (.inr hb)),fun h=>(by cases h),fun Y' hY'=>?_,fun Y' hY' p hp=>(by cases hp)⟩
  ·show (xs.toArray ++ Array.replicate (fn.ntmps - xs.toArray.size) undef).size = fn.ntmps
   have : xs.length = ds.length + 1:=hxl
   simp only [Array.size_append,Array.size_replicate,List.size_toArray]
   omega
  ·show Fz w F mm (σ t) ((xs.toArray ++ Array.replicate (fn.ntmps - xs.toArray.size) undef).getD t undef)
   by_cases hne : t = gh
   ·subst hne; rw [hgh0]; exact .gho _ _ _ _ _ _
   ·rw [hgetx,hslot t ht hne]
    by_cases h : t < dd.length
    ·have hx : xs[t]? = some (xs.getD t undef):=by rw [List.getD_eq_getElem?_getD,List.getElem?_eq_getElem (by omega)]; rfl
     rw [if_pos h]
     cases t with
     | zero=>
      rw [hx0] at hx
      rw [← Option.some.inj hx,hx0e,hdd]
      exact .own mm 1000000 s _ b cap cur T hmb hs hlec hbk hcap2
     | succ t=>
      have hdt : ds[t]? = some (dd.getD (t + 1) .any):=by
       rw [hdd] at h ⊢
       rw [List.getD_eq_getElem?_getD,List.getElem?_cons_succ,List.getElem?_eq_getElem (by simpa using h)]; rfl
      exact (hfz (t + 1) _ _ (by simpa using hdt) hx).pure (D.purL_iff.1 hds _ (List.mem_of_getElem? hdt)) mm
    ·rw [if_neg h]; exact .any _ _
  ·by_cases e : g = nb
   ·subst e
    rw [hnm0]
    refine .inr ⟨b,cur,T,hmb,hbk,hs,hK.cells2,by rw [hK.len]; exact hml,?_,fun o ho=>hBF b o hBb ho⟩
    rw [hK.len,← hus]
    refine ⟨by rw [hul,hK.flat],h1,fun j d' u hd' hu=>?_⟩
    have hjl : j < (D.flat es).length:=by rw [← hK.flat]; exact (List.getElem?_eq_some_iff.1 hd').1
    obtain ⟨d,hdj'⟩ : ∃ d,(D.flat es)[j]? = some d:=⟨_,List.getElem?_eq_getElem hjl⟩
    obtain ⟨htd,hd2⟩:=hK.at' j d hdj'
    rw [hd2] at hd'
    obtain rfl:=Option.some.inj hd'
    have hsj:=hr1 j d u hdj' hu
    cases d with
    | v y=>
     cases hsj with
     | v _ _ _=>exact .v _ _
    | sl s2 e2=>
     show Fz w F mm (kD (key j) s2 e2) u
     unfold kD
     cases hsj with
     | sl0 _ _ a' c' _=>rw [if_pos rfl]; exact .sl0 _ _ _ _
     | sl _ Bs2 _ _ bj capj curj Tj hsj0 he0 hlej hlenj hbj hcapj _ _ _ _ _=>
      rw [if_neg he0]
      have htj : treeC (D.flat es) j:=⟨s2,e2,hdj',he0⟩
      refine .kow mm (key j) s2 _ bj capj curj Tj (by have:=hkl j htj; omega) ?_ hsj0 hlej hbj hcapj
      rw [hmk j htj]
      unfold bndOf
      rw [hu]
    | _=>cases htd
   ·rw [hnm g (by omega)]; exact hmo g e (by omega)
  ·rw [hisb g hg h1,hisb g' hg' h2]
  ·rw [hisb g hg h1,hmb] at h2
   obtain rfl : b = b':=by injection h2 with h2; injection h2
   exact .inl hBb
  ·have hi : i < 1:=hi
   obtain rfl : i = 0:=by omega
   exact ⟨(by show σ nb ≠ .free; rw [hnm0]; intro h; cases h),rfl⟩
  ·obtain rfl:=Option.some.inj hY'
   refine ⟨Nat.zero_le _,⟨k0,hJ,fun l L' e k he=>?_⟩,fun g b' hg hb' h2=>?_⟩
   ·rw [hgh0] at he
    injection he with q1 q2 q3 q4
    exact ⟨q1.symm,q2.symm,q3.symm,q4.symm⟩
   ·rw [hisb g hg hb',hmb] at h2
    obtain rfl : b = b':=by injection h2 with h2; injection h2
    exact ⟨fun ⟨k,hk,h⟩=>hn k (by omega) (by rw [Nat.zero_add] at h; exact h),Nat.zero_le _⟩
 have fin : ∀ (a' : Act) (w' : World),(∃ G' τ,GExt G G' ∧ G'.ok P ∧ Rel G' τ a' w' ∧ FinRR rs' r fm p mm k1 s es2' τ) → LeavesInM Fence.wide 3 P fn a'.tmps (fun e w'=>∃ x F' m' B',e = .returned x ∧ Chg w F B w' F' ∧ (∀ b o,F' b o → b < w'.heap.size) ∧ (∀ b,B' b → B b ∨ w.heap.size ≤ b) ∧ (∀ b o,B' b → ¬ F' b o) ∧
   (∀ κ,κ < 1 → m' κ = m κ) ∧ (∀ κ,1 ≤ κ → m' κ = none) ∧ Fz w' F' m' r x ∧ OwnL [⟨0,s,es'⟩] w' m' B') a'.defers .returning w':=by
  rintro a' w1 ⟨G',τ0,hG,hok',hR,τ,hwk,⟨hgk,hro,hrr⟩,hrow⟩
  obtain ⟨K,M,rfl,hKM⟩:=hG
  obtain ⟨hdf,F',m1,hR⟩:=hwk _ a' w1 rfl hR
  obtain ⟨B1',hE1⟩:=hR.ext
  rw [hdf]
  refine marks_out _ _ _ B1' hR hE1 hok'.mrk hok'.nd hok'.new (fun K' w' hR hE=>?_)
  obtain ⟨v,hv,hfv⟩:=res_run (a:=a') hR fn hrs hro
  have hrr' : resD τ rs' = r:=hrr
  rw [hrr'] at hfv
  obtain ⟨_,⟨k'',hJ',hk'⟩,hdis⟩:=hE.yes Y rfl
  obtain ⟨_,_,_,rfl⟩:=hk' _ _ _ _ hgk
  obtain ⟨q1,q2,q3,q4⟩:=hJ'
  have hrow : τ nb = .row s es2':=hrow
  have hm1b : m1 nb = some (some b):=((hR.par 0 Nat.zero_lt_one).2).trans hmb
  have hblk:=hR.blks nb (Nat.le_refl _)
  rw [hrow] at hblk
  have hl2 : es2'.length = es.length:=hK'.len.trans hle'
  rcases hblk with ⟨he,_⟩ | ⟨b',cur',T',hmg',hb',hs',hlen',hsz',hcc',hnF'⟩
  ·exact absurd (List.length_eq_zero_iff.1 (by rw [← hl2,he]; rfl)) h0
  rw [hm1b] at hmg'
  obtain rfl : b = b':=by injection hmg' with h; injection h
  have hbB : ¬ B1' b:=(hdis nb b (Nat.le_refl _) (by rw [hrow]; rfl) hm1b).1
  have hfe : (D.flat es').length = es'.length * s:=flat_len hK'.cells
  have hul' : (cur'.toList.take (es'.length * s)).length = (D.flat es').length:=by
   have hcl : cur'.toList.length = cur'.size:=rfl
   rw [List.length_take,hfe]
   rw [hK'.len] at hsz'
   omega
  rw [hK'.len] at hcc'
  obtain ⟨Bs',r1,r2,r3⟩:=cells_sep (w:=w') (F:=F') (m:=m1) (key:=key) (D.flat es') (cur'.toList.take (es'.length * s)) 0 B1' hul' (fun j d u hd hu=>by
   obtain ⟨h1,h2⟩:=hK'.at' j d hd
   refine ⟨h1,?_⟩
   have:=hcc'.fz j _ u h2 hu
   show Fz w' F' m1 (kC (key (0 + j)) d) u
   rw [Nat.zero_add j]
   exact this) (q1.perm hi1)
  have hsz'' : es'.length * s ≤ cur'.size:=by rw [← hK'.len]; exact hsz'
  have hS : Sep w' (fun c=>c = b ∨ B1' c) (.sl s es') (.slice (some ⟨b,0,none⟩) es'.length es'.length):=
   .sl _ Bs' s es' b es'.length cur' T' hs' h0' (Nat.le_refl _) hK'.cells hb' hsz'' hcc'.one r1 r2 (fun j hj h=>hbB ((r3 b).2 ⟨j,hj,h⟩)) (fun c=>by
    constructor
    ·rintro (h | h)
     ·exact .inl h
     ·exact .inr ((r3 c).1 h)
    ·rintro (h | h)
     ·exact .inl h
     ·exact .inr ((r3 c).2 h))
  refine ⟨v,hv,v,F',fun κ=>if κ = 0 then m 0 else none,fun c=>c = b ∨ B1' c,rfl,hR.chg,hR.wf,fun c hc=>?_,fun c o hc ho=>?_,fun κ hκ=>?_,fun κ hκ=>if_neg (by omega),hfv.scal hr _,?_⟩
  ·rcases hc with rfl | hc
   ·exact .inl hBb
   ·exact hE.own c hc
  ·rcases hc with rfl | hc
   ·exact hnF' o ho
   ·exact q2 c o hc ho
  ·obtain rfl : κ = 0:=by omega
   exact if_pos rfl
  ·exact ⟨fun c=>c = b ∨ B1' c,noBlocks,.inr ⟨h0',by show 0 < nb; omega,b,_,(if_pos rfl).trans hmg,hS⟩,fun _ h=>h,fun _ _ h=>h,fun c=>⟨.inl,fun h=>h.elim id (fun h=>h.elim)⟩⟩
 have hok0 : G.ok P:=⟨fun Y' hY'=>(by obtain rfl:=Option.some.inj hY'; rfl),fun l hl=>(by cases hl),fun b hb=>(by cases hb),List.nodup_nil,fun b hb=>(by cases hb)⟩
 have hd0:=hd mm
 unfold hold at hd0
 rw [← hσ] at hd0
 refine wpIn_mono (F:=G.fen) (dwp_ok hm c dc' G σ _ w _ _ _ 3 hok0 hdc hR0 hd0) ?_
 intro en a' w' hp
 cases en with
 | normal=>exact fin a' w' hp
 | ret=>exact fin a' w' hp
 | exit id=>obtain ⟨_,_,_,_,_,h⟩:=hp; exact h.elim
 | _=>exact hp.elim
end Go.Proofs.Ytclkehekhdfnnaa
