/-
  Calls on rows of one's own, told of trees under keys. No condition.
-/
import Derived.Test.YtedmegmhjmabcaaKSVRegL
set_option maxHeartbeats 4000000
set_option maxRecDepth 100000
set_option linter.unusedVariables false
set_option linter.unusedSimpArgs false
namespace Go.Proofs.Ytedmegmhjmabcaa
open Go.RowKit
def flatD (es : List D) : Prop:=∀ d,d ∈ D.flat es → ∃ v,d = .v v
theorem flatD_map {α : Type} (f : α → D) (l : List α) (h : ∀ a c,c ∈ (f a).cells → ∃ v,c = .v v) : flatD (l.map f):=by
 intro d hd
 unfold D.flat at hd
 obtain ⟨e,he,hd⟩:=List.mem_flatMap.1 hd
 obtain ⟨a,_,rfl⟩:=List.mem_map.1 he
 exact h a d hd
theorem flat_sep {w : World} {F : Cells} {m : Names} {s : Nat} {es : List D} {b cap : Nat} {cur : Array Value} {T : TypeId} (hf : flatD es) (h0 : es ≠ []) (hs : 0 < s) (hle : es.length ≤ cap) (hlen : ∀ (e : D),e ∈ es → e.cells.length = s) (hb : w.heap[b]? = some (.cells cur T (0,0))) (hcap : cap * s ≤ cur.size)
  (hc : CellsOK w F m (D.flat es) (cur.toList.take (es.length * s))) : Sep w (fun c=>c = b) (.sl s es) (.slice (some ⟨b,0,none⟩) es.length cap):=by
 refine .sl _ (fun _=>noBlocks) s es b cap cur T hs h0 hle hlen hb hcap hc.one (fun k d u hd hu=>?_) (fun _ _ _ _ _ h=>h.elim) (fun _ _ h=>h) (fun c=>⟨.inl,fun h=>h.elim id (fun ⟨_,_,h⟩=>h.elim)⟩)
 obtain ⟨v,rfl⟩:=hf d (List.mem_of_getElem? hd)
 have:=hc.fz k _ u hd hu
 cases this
 exact .v _ _ (fun _ h=>h)
theorem flat_cells {w : World} {F : Cells} {m : Names} {B : Blocks} {s : Nat} {es : List D} {b n cap : Nat} (hf : flatD es) (h : Sep w B (.sl s es) (.slice (some ⟨b,0,none⟩) n cap)) (h0 : es ≠ []) :
  B b ∧ (∀ c,B c → c = b) ∧ ∃ cur T,0 < s ∧ (∀ (e : D),e ∈ es → e.cells.length = s) ∧ w.heap[b]? = some (.cells cur T (0,0)) ∧ es.length * s ≤ cur.size ∧ CellsOK w F m (D.flat es) (cur.toList.take (es.length * s)):=by
 cases h with
 | sl0=>exact absurd rfl h0
 | sl _ Bs _ _ _ _ cur T hs _ hle hlen hb hcap h1 hr hd hn hB=>
  have hml : es.length * s ≤ cur.size:=Nat.le_trans (Nat.mul_le_mul_right s hle) hcap
  have hul : (cur.toList.take (es.length * s)).length = (D.flat es).length:=by
   have hcl : cur.toList.length = cur.size:=rfl
   rw [List.length_take,flat_len hlen]
   omega
  have hv : ∀ (k : Nat) (d : D) (u : Value),(D.flat es)[k]? = some d → (cur.toList.take (es.length * s))[k]? = some u → (∀ c,¬ Bs k c) ∧ Fz w F m d u:=by
   intro k d u hd hu
   obtain ⟨v,rfl⟩:=hf d (List.mem_of_getElem? hd)
   have:=hr k _ u hd hu
   cases this with
   | v _ _ hB=>exact ⟨hB,.v _ _⟩
  refine ⟨(hB b).2 (.inl rfl),fun c hc=>?_,cur,T,hs,hlen,hb,hml,hul,h1,fun k d u hd hu=>(hv k d u hd hu).2⟩
  rcases (hB c).1 hc with h | ⟨k,hk,h⟩
  ·exact h
  ·exact absurd h ((hv k _ ((cur.toList.take (es.length * s))[k]'(by omega)) (List.getElem?_eq_getElem hk) (List.getElem?_eq_getElem (by omega))).1 c)
theorem rcalls_ans {P : Program} {f : FuncId} {ds : List D} {s : Nat} {es : List D} (h : Does P f [] ds (.own 1000000 s es.length) [.row s es]) (hds : D.purL ds = true) (h0 : es ≠ []) (hf : flatD es) : RCalls P f [] ds [⟨0,s,es⟩] 1 (.kow 0 s es.length):=by
 intro w F m B xs hwf hO hBF hmn hxl hfz
 have hn1 : nb = 1000000:=rfl
 refine (h w F noNames xs hxl (Nat.zero_le _) hwf (fun i d x hd hx=>(hfz i d x hd hx).pure (D.purL_iff.1 hds d (List.mem_of_getElem? hd)) noNames) (fun i d hd=>by simp at hd) (fun _ _=>rfl) (fun i j b hi=>by simp at hi)).mono ?_
 rintro e w' ⟨x,F',m',rfl,c,wf',_,_,hx,hblk,_,hnew⟩
 obtain ⟨_,hb⟩:=hblk 0 _ rfl
 rcases hb with ⟨he,_⟩ | ⟨b,cur,T,hmg,hb,hs,hlen,hsz,hcc,hnF⟩
 ·exact absurd he h0
 have hmg : m' 1000000 = some (some b):=hmg
 have hbn : w.heap.size ≤ b:=(hnew 0 _ b rfl rfl hmg).resolve_left (fun ⟨j,hj,_⟩=>by simp at hj)
 obtain ⟨cap,rfl,hle,hcap⟩ : ∃ cap,x = .slice (some ⟨b,0,none⟩) es.length cap ∧ es.length ≤ cap ∧ cap * s ≤ cur.size:=by
  generalize hel : es.length = n at hx
  cases hx with
  | own _ _ _ _ b2 cap cur2 T2 hg2 hs2 hle2 hb2 hcap2=>
   rw [hmg] at hg2
   obtain rfl : b = b2:=by injection hg2 with hg2; injection hg2
   rw [hb] at hb2
   obtain ⟨rfl,_⟩ : cur = cur2 ∧ T = T2:=by injection hb2 with hb2; injection hb2 with h1 h2; exact ⟨h1,h2⟩
   exact ⟨cap,rfl,hle2,hcap2⟩
  | own0 _ _ _ a hg2=>rw [hmg] at hg2; cases hg2
 have hT : ∀ b,¬ (∃ i,i < ([] : List D).length ∧ noNames (nb + i) = some (some b)):=fun b ⟨i,hi,_⟩=>by simp at hi
 refine ⟨_,F',fun κ=>if κ = 0 then some (some b) else none,fun c=>c = b,rfl,c.mono (fun b hb=>(hT b hb).elim),wf',fun c hc=>.inr (by rw [hc]; exact hbn),fun c o hc ho=>hnF o (by rw [← hc]; exact ho),fun κ hκ=>by simp at hκ,fun κ hκ=>if_neg (by omega),.kow _ 0 s _ b cap cur T (by omega) (if_pos rfl) hs hle hb hcap,?_⟩
 exact ⟨fun c=>c = b,noBlocks,.inr ⟨h0,by show 0 < nb; omega,b,cap,if_pos rfl,flat_sep hf h0 hs hle hlen hb hcap hcc⟩,fun _ h=>h,fun _ _ h=>h,fun c=>⟨.inl,fun h=>h.elim id (fun h=>h.elim)⟩⟩
theorem rcalls_upd {P : Program} {f : FuncId} {ds : List D} {s : Nat} {es es' : List D} {r : D} (h : Does P f [.row s es] (.own 1000000 s es.length :: ds) r [.row s es']) (hds : D.purL ds = true) (h0 : es ≠ []) (hl : es'.length = es.length) (hf : flatD es) (hf' : flatD es') (hr : r.scal = true) :
  RCalls P f [⟨0,s,es⟩] (.kow 0 s es.length :: ds) [⟨0,s,es'⟩] 1 r:=by
 intro w F m B xs hwf hO hBF hmn hxl hfz
 have hn1 : nb = 1000000:=rfl
 have h0' : es' ≠ []:=fun e=>h0 (List.length_eq_zero_iff.1 (by rw [← hl,e]; rfl))
 obtain ⟨B1,B2,ht,hO2,hdj,hBB⟩:=hO
 rcases ht with ⟨h,_⟩ | ⟨_,hκ,b,cap0,hmg,hsep⟩
 ·exact absurd h h0
 have hmg : m 0 = some (some b):=hmg
 obtain ⟨hBb,hBo,cur,T,hs,hlen,hb,hsz,hcc⟩:=flat_cells (F:=F) (m:=fun g=>if g = nb then m 0 else none) hf hsep h0
 have hB' : ∀ c,B c ↔ c = b:=fun c=>(hBB c).trans ⟨fun h=>h.elim (hBo c) (fun h=>(hO2 c h).elim),fun h=>.inl (by rw [h]; exact hBb)⟩
 have hmb : (fun g=>if g = nb then m 0 else none : Names) (nb + 0) = some (some b):=(if_pos rfl).trans hmg
 refine (h w F (fun g=>if g = nb then m 0 else none) xs hxl (Nat.le_refl _) hwf (fun i d x hd hx=>?_) (fun i d hd=>?_) (fun g hg=>if_neg (by rcases hg with h | h; omega; have : nb + 1 ≤ g:=h; omega)) (fun i j b hi hj _ _=>by have : i < 1:=hi; have : j < 1:=hj; omega)).mono ?_
 ·cases i with
  | zero=>
   obtain rfl:=Option.some.inj hd
   have hk:=hfz 0 _ x rfl hx
   generalize es.length = n at hk
   cases hk with
   | kow _ _ _ _ b2 cap2 cur2 T2 hκ2 hg2 hs2 hle2 hb2 hcap2=>exact .own _ 1000000 s n b2 cap2 cur2 T2 ((if_pos rfl).trans hg2) hs2 hle2 hb2 hcap2
  | succ i=>exact (hfz (i + 1) d x hd hx).pure (D.purL_iff.1 hds d (List.mem_of_getElem? hd)) _
 ·cases i with
  | zero=>
   obtain rfl:=Option.some.inj hd
   exact ⟨rfl,.inr ⟨b,cur,T,hmb,hb,hs,hlen,hsz,hcc,fun o ho=>hBF b o ((hB' b).2 rfl) ho⟩⟩
  | succ i=>cases hd
 ·rintro e w' ⟨x,F',m',rfl,c,wf',hmk,_,hx,hblk,_,_⟩
  have hm'b : m' (nb + 0) = some (some b):=(hmk 0 Nat.zero_lt_one).trans hmb
  obtain ⟨_,hb'⟩:=hblk 0 _ rfl
  rcases hb' with ⟨he,_⟩ | ⟨b',cur',T',hmg',hb',hs',hlen',hsz',hcc',hnF'⟩
  ·exact absurd he h0'
  rw [hm'b] at hmg'
  obtain rfl : b = b':=by injection hmg' with h; injection h
  obtain ⟨cap,hle,hcap⟩ : ∃ cap,es'.length ≤ cap ∧ cap * s ≤ cur'.size:=⟨es'.length,Nat.le_refl _,hsz'⟩
  refine ⟨x,F',m,B,rfl,c.mono (fun c hc=>?_),wf',fun c hc=>.inl hc,fun c o hc ho=>hnF' o (by rw [← (hB' c).1 hc]; exact ho),fun _ _=>rfl,fun κ hκ=>hmn κ hκ,hx.scal hr m,?_⟩
  ·obtain ⟨i,hi,hc⟩:=hc
   obtain rfl : i = 0:=by have : i < 1:=hi; omega
   have hc : (if nb + 0 = nb then m 0 else none) = some (some c):=hc
   rw [if_pos (Nat.add_zero _),hmg] at hc
   exact (hB' c).2 (by injection hc with h; injection h with h; exact h.symm)
  ·exact ⟨fun c=>c = b,noBlocks,.inr ⟨h0',hκ,b,cap,hmg,flat_sep hf' h0' hs' hle hlen' hb' hcap hcc'⟩,fun _ h=>h,fun _ _ h=>h,fun c=>(hB' c).trans ⟨.inl,fun h=>h.elim id (fun h=>h.elim)⟩⟩
theorem RCalls.does {P : Program} {f : FuncId} {ds : List D} {post : List It} {top : Nat} {r : D} (h : RCalls P f [] ds post top r) (hr : r.scal = true) : Does P f [] ds r []:=by
 intro w F m xs hxl _ hwf hfz _ hmn _
 refine (h w F m noBlocks xs hwf (fun _ h=>h) (fun _ _ h=>h.elim) (fun κ _=>hmn κ (by show κ < nb ∨ nb + 0 ≤ κ; omega)) hxl hfz).mono ?_
 rintro e w' ⟨x,F',m',B',rfl,c,wf',_,_,_,_,hx,_⟩
 exact ⟨x,F',noNames,rfl,c.mono (fun b hb=>hb.elim),wf',fun i hi=>by simp at hi,fun _ _=>rfl,hx.scal hr noNames,fun i d hd=>by simp at hd,fun i j b d d' hd=>by simp at hd,fun i d b hd=>by simp at hd⟩
end Go.Proofs.Ytedmegmhjmabcaa
