/-
  Code on plain data, step by step. No condition.
-/
import Derived.Test.YtimpofjjndbofaaVCode
namespace Go.Proofs.Ytimpofjjndbofaa
open Go.RowKit

theorem set_get (σ : Env) (t : Nat) (d : D) (u : Nat) : (σ.set t d) u = if u = t then d else σ u := rfl
theorem base_get (c t : Nat) : base c t = if t < 1000000 then .any else if t < 1000000 + c then .any else .free := rfl
theorem nb_eq : nb = 1000000 := rfl
theorem freeN_eq (σ : Env) (g : Nat) : freeN σ g = (1000000 ≤ g ∧ σ g = .free) := rfl
theorem nameOf_nil (g : Nat) : nameOf [] g = none := by
  unfold nameOf
  split <;> rfl

theorem evG_mono {P : Program} {B : List Nat} {N M : Env → Prop} (h : ∀ τ, N τ → M τ) : ∀ (l : List GI) (σ : Env) (acc : Option (List Ent)), evG P B l σ acc N → evG P B l σ acc M
  | [], σ, _, hh => ⟨hh.1, h σ hh.2⟩
  | _ :: l, _, _, ⟨e, upd, hs, hh⟩ => ⟨e, upd, hs, evG_mono h l _ _ hh⟩
theorem dwp_mono {P : Program} {k : Nat} (c : DC) : ∀ {σ : Env} {N M : Env → Prop} {X Y : Nat → Env → Prop} {R S : Env → Prop}, (∀ τ, N τ → M τ) → (∀ i τ, X i τ → Y i τ) → (∀ τ, R τ → S τ) → dwp P k c σ N X R → dwp P k c σ M Y S := by
  induction c with
  | skip => intro σ N M X Y R S hN hX hR h; exact hN _ h
  | reg gis B => intro σ N M X Y R S hN hX hR h; exact evG_mono hN _ _ _ h
  | seq a b iha ihb => intro σ N M X Y R S hN hX hR h; exact iha (fun τ hτ => ihb hN hX hR hτ) hX hR h
  | cond c a b iha ihb =>
    intro σ N M X Y R S hN hX hR h
    simp only [dwp] at h ⊢
    cases hv : c.val σ with
    | v x =>
      rw [hv] at h
      cases x with
      | bool q => exact ⟨fun hq => iha hN hX hR (h.1 hq), fun hq => ihb hN hX hR (h.2 hq)⟩
      | _ => exact h.elim
    | _ => rw [hv] at h; exact h.elim
  | block id c ih =>
    intro σ N M X Y R S hN hX hR h
    refine ih hN (fun i τ hτ => ?_) hR h

    split
    · rename_i e; rw [if_pos e] at hτ; exact hN _ hτ
    · rename_i e; rw [if_neg e] at hτ; exact hX _ _ hτ
  | loop c ih =>
    intro σ N M X Y R S hN hX hR h
    obtain ⟨ι, I, J, m, i, hJ, hw, hh⟩ := h
    exact ⟨ι, I, J, m, i, hJ, hw, fun i hJ => ih (fun _ h => h) hX hR (hh i hJ)⟩
  | exit id => intro σ N M X Y R S hN hX hR h; exact hX _ _ h
  | ret => intro σ N M X Y R S hN hX hR h; exact hR _ h

theorem Sub.refl (d : D) : Sub d d := fun _ _ _ _ h => h
theorem Sub.of_eq {d e : D} (h : d = e) : Sub d e := by subst h; exact Sub.refl d
theorem Sub.any (d : D) : Sub d .any := fun _ _ m x _ => .any m x
theorem Sub.nul (s : Nat) : Sub .nul (.sl s []) := fun _ _ m x h => by cases h with
  | nul _ a => exact .sl0 m s a 0
def SubL : List D → List D → Prop
  | [], [] => True
  | d :: l, e :: k => Sub d e ∧ SubL l k
  | _, _ => False
theorem SubL.refl : ∀ l : List D, SubL l l
  | [] => trivial
  | d :: l => ⟨Sub.refl d, SubL.refl l⟩
theorem SubL.spec : ∀ {l k : List D}, SubL l k → l.length = k.length ∧ ∀ (i : Nat) (e : D), k[i]? = some e → ∃ d, l[i]? = some d ∧ Sub d e
  | [], [], _ => ⟨rfl, fun i e h => by simp at h⟩
  | [], _ :: _, h => h.elim
  | _ :: _, [], h => h.elim
  | d :: l, e :: k, h => by
    obtain ⟨h1, h2⟩ := h.2.spec
    refine ⟨by simp [h1], fun i e' he => ?_⟩
    cases i with
    | zero =>
      obtain rfl : e = e' := by simpa using he
      exact ⟨d, rfl, h.1⟩
    | succ i => exact h2 i e' (by simpa using he)
theorem Sub.agg {l k : List D} (h : SubL l k) : Sub (.agg l) (.agg k) := fun w F m x hx => by
  obtain ⟨h1, h2⟩ := h.spec
  cases hx with
  | agg _ _ us hl ho hr =>
    exact .agg m k us (by rw [hl, h1]) ho (fun i e u he hu => by
      obtain ⟨d, hd, hs⟩ := h2 i e he
      exact hs _ _ _ _ (hr i d u hd hu))
theorem Sub.tup {l k : List D} (h : SubL l k) : Sub (.tup l) (.tup k) := fun w F m x hx => by
  obtain ⟨h1, h2⟩ := h.spec
  cases hx with
  | tup _ _ us hl hr =>
    exact .tup m k us (by rw [hl, h1]) (fun i e u he hu => by
      obtain ⟨d, hd, hs⟩ := h2 i e he
      exact hs _ _ _ _ (hr i d u hd hu))
theorem Sub.trans {d e f : D} (h : Sub d e) (h1 : Sub e f) : Sub d f := fun w F m x hx => h1 w F m x (h w F m x hx)
/-- A contract may say less of its result, and ask more of its arguments. -/
theorem Does.weak {P : Program} {f : FuncId} {H ds es H' : List D} {r s : D} (h : Does P f H ds r H') (ha : SubL es ds) (hr : Sub r s) : Does P f H es s H' := by
  intro w F m xs hxl hHle hwf hfz hblk hnone hinj
  obtain ⟨h1, h2⟩ := ha.spec
  refine (h w F m xs (by rw [hxl, h1]) hHle hwf (fun i d x hd hx => ?_) hblk hnone hinj).mono ?_
  · obtain ⟨e, he, hs⟩ := h2 i d hd
    exact hs _ _ _ _ (hfz i e x he hx)
  · rintro e w' ⟨x, F', m', rfl, c, g1, g2, g3, g4, g5⟩
    exact ⟨x, F', m', rfl, c, g1, g2, g3, hr _ _ _ _ g4, g5⟩

theorem ok_of {σ : Env} {i : In} (h : i.ok σ) : i.ok σ := h

section
variable {P : Program} {k : Nat} {a b : DC} {σ : Env} {N : Env → Prop} {X : Nat → Env → Prop} {R : Env → Prop}
theorem dw_skip (h : N σ) : dwp P k .skip σ N X R := h
theorem dw_reg0 {gis : List GI} (h : evG P [] gis σ none N) : dwp P k (.reg gis none) σ N X R := h
theorem dw_regB {gis : List GI} {B : List Nat} (h : evG P B gis σ (some []) N) : dwp P k (.reg gis (some B)) σ N X R := h
theorem dw_seq (h : dwp P k a σ (fun τ => dwp P k b τ N X R) X R) : dwp P k (.seq a b) σ N X R := h
theorem dw_block {id : Nat} (h : dwp P k a σ N (fun i τ => if i = id then N τ else X i τ) R) : dwp P k (.block id a) σ N X R := h
theorem dw_exit {id : Nat} (h : X id σ) : dwp P k (.exit id) σ N X R := h
theorem dw_ret (h : R σ) : dwp P k .ret σ N X R := h
def dwC (P : Program) (k : Nat) (c : D) (a b : DC) (σ : Env) (N : Env → Prop) (X : Nat → Env → Prop) (R : Env → Prop) : Prop :=
  match c with
  | .v (.bool q) => (q = true → dwp P k a σ N X R) ∧ (q = false → dwp P k b σ N X R)
  | _ => False
theorem dw_cond {c : Opd} (h : dwC P k (hold (c.val σ)) a b σ N X R) : dwp P k (.cond c a b) σ N X R := by
  unfold hold dwC at h
  show (match c.val σ with
    | .v (.bool q) => (q = true → dwp P k a σ N X R) ∧ (q = false → dwp P k b σ N X R)
    | _ => False)
  cases hc : c.val σ with
  | v x => rw [hc] at h; cases x <;> exact h
  | _ => rw [hc] at h; exact h.elim
theorem c_true (h : dwp P k a σ N X R) : dwC P k (.v (.bool true)) a b σ N X R := ⟨fun _ => h, (fun e => by cases e)⟩
theorem c_false (h : dwp P k b σ N X R) : dwC P k (.v (.bool false)) a b σ N X R := ⟨(fun e => by cases e), fun _ => h⟩
theorem c_split {q : Bool} (h1 : q = true → dwp P k a σ N X R) (h2 : q = false → dwp P k b σ N X R) : dwC P k (.v (.bool q)) a b σ N X R := ⟨h1, h2⟩
theorem c_splitP {p : Prop} [Decidable p] (h1 : decide p = true → p → dwp P k a σ N X R) (h2 : decide p = false → ¬ p → dwp P k b σ N X R) : dwC P k (.v (.bool (decide p))) a b σ N X R := ⟨fun h => h1 h (of_decide_eq_true h), fun h => h2 h (of_decide_eq_false h)⟩
theorem c_splitE {x y : Int} (h1 : (x == y) = true → x = y → dwp P k a σ N X R) (h2 : (x == y) = false → ¬ x = y → dwp P k b σ N X R) : dwC P k (.v (.bool (x == y))) a b σ N X R := ⟨fun h => h1 h (by simpa using h), fun h => h2 h (by simpa using h)⟩
theorem c_splitN {x y : Int} (h1 : (x != y) = true → ¬ x = y → dwp P k a σ N X R) (h2 : (x != y) = false → x = y → dwp P k b σ N X R) : dwC P k (.v (.bool (x != y))) a b σ N X R := ⟨fun h => h1 h (by simpa using h), fun h => h2 h (by simpa using h)⟩
theorem c_splitQ {p : Prop} [Decidable p] (h1 : decide p = false → ¬ p → dwp P k a σ N X R) (h2 : decide p = true → p → dwp P k b σ N X R) : dwC P k (.v (.bool (!decide p))) a b σ N X R := ⟨fun h => h1 (by simpa using h) (by simpa using h), fun h => h2 (by simpa using h) (by simpa using h)⟩
theorem it_pos {c : Prop} [Decidable c] {p q : Prop} (hc : c) (h : p) : if c then p else q := by rw [if_pos hc]; exact h
theorem it_neg {c : Prop} [Decidable c] {p q : Prop} (hc : ¬ c) (h : q) : if c then p else q := by rw [if_neg hc]; exact h
theorem dw_loop {ι : Type} (I : ι → Env) (J : ι → Prop) (m : ι → Nat) (i : ι) (hJ : J i) (hi : Wk k σ (I i))
    (h : ∀ i, J i → dwp P k a (I i) (fun τ => ∃ j, J j ∧ m j < m i ∧ Wk k τ (I j)) X R) : dwp P k (.loop a) σ N X R := ⟨ι, I, J, m, i, hJ, hi, h⟩
/-- A loop over the numbers from lo on, below hi; what else is known by the list l. -/
theorem dw_for {c : Nat} {l : Nat → List (Nat × D)} (hi : Nat) (J : Nat → Prop) (i : Nat) (hJ : J i) (hw : Wk k σ (ofL c (l i)))
    (h : ∀ i, i ≤ hi → J i → dwp P k a (hold (ofL c (l i))) (fun τ => i < hi ∧ J (i + 1) ∧ Wk k τ (ofL c (l (i + 1)))) X R) (hle : i ≤ hi) : dwp P k (.loop a) σ N X R := by
  refine dw_loop (fun i => ofL c (l i)) (fun i => i ≤ hi ∧ J i) (fun i => hi - i) i ⟨hle, hJ⟩ hw (fun i hJ => ?_)
  have hh := h i hJ.1 hJ.2
  exact dwp_mono a (fun τ hτ => ⟨i + 1, ⟨hτ.1, hτ.2.1⟩, by have := hτ.1; omega, hτ.2.2⟩) (fun _ _ h => h) (fun _ h => h) hh

def finB (σ : Env) (L : List Nat) : List Nat → List D → Prop
  | [], [] => True
  | g :: l, d :: H => (d = .any ∨ (d.isBlk = true ∧ σ g = d.ren L)) ∧ finB σ L l H
  | _, _ => False
theorem finB_at {σ : Env} {L : List Nat} : ∀ {l : List Nat} {H : List D}, finB σ L l H → l.length = H.length ∧ ∀ (i : Nat) (d : D) (g : Nat), H[i]? = some d → l[i]? = some g → d = .any ∨ (d.isBlk = true ∧ σ g = d.ren L)
  | [], [], _ => ⟨rfl, fun i d g h => by simp at h⟩
  | [], _ :: _, h => h.elim
  | _ :: _, [], h => h.elim
  | g :: l, d :: H, h => by
    obtain ⟨h1, h2⟩ := finB_at h.2
    refine ⟨by simp [h1], fun i d' g' hd hg => ?_⟩
    cases i with
    | zero =>
      obtain rfl : d = d' := by simpa using hd
      obtain rfl : g = g' := by simpa using hg
      exact h.1
    | succ i => exact h2 i d' g' (by simpa using hd) (by simpa using hg)
/-- At a function's end. -/
theorem fin_L {rs : List Res} {r : D} {H' : List D} (L : List Nat) (hok : hold (resOk σ rs)) (hres : Sub (hold (resD σ rs)) (hold (r.ren L))) (hL : canB k L = true) (hb : hold (finB σ L L H')) : Fin k rs r H' σ :=
  ⟨σ, L, Wk.refl k σ, hok, hres, (finB_at (show finB σ L L H' from hb)).1, hL, (finB_at (show finB σ L L H' from hb)).2⟩
theorem fin_0 {rs : List Res} {r : D} (hok : hold (resOk σ rs)) (hp : r.pur = true) (hres : Sub (hold (resD σ rs)) (hold r)) : Fin 0 rs r [] σ :=
  fin_L [] hok (by rw [show hold (r.ren []) = r from ren_pure _ _ hp]; exact hres) rfl trivial
theorem fin_wk {rs : List Res} {r : D} {H' : List D} {τ : Env} (hw : Wk k σ τ) (h : Fin k rs r H' (hold τ)) : Fin k rs r H' σ := by
  obtain ⟨τ', L, hw', hf⟩ := h
  exact ⟨τ', L, hw.trans hw', hf⟩
theorem wk_frz (t g : Nat) {s : Nat} {es : List D} (ht : t < nb) (hg : nb ≤ g) (hr : σ g = .row s es) (hp : D.purL es = true) : Wk k σ (Env.put (frzU σ t g s es) σ) := fun _ _ _ _ hR => hR.frz ht hg hr hp
theorem wk_frzO (q g : Nat) {s : Nat} {es cs : List D} (hq : nb ≤ q) (hqg : q ≠ g) (hcs : σ q = .obj cs) (hg : nb ≤ g) (hr : σ g = .row s es) (hp : D.purL es = true) : Wk k σ (Env.put (frzO σ q g s es) σ) := fun _ _ _ _ hR => hR.frzObj hq hqg hcs hg hr hp
/-- An empty slice, of whatever kind. -/
theorem wk_nul (t : Nat) (s : Nat) (ht : t < nb) (hr : σ t = .nul) : Wk k σ (σ.set t (.sl s [])) := fun G a w _ hR => (pre_nul ht s hr).2 G σ a w (fun _ _ => rfl) hR

/-- An empty slice as a row of one's own, without a block. -/
theorem wk_row (t g : Nat) (s : Nat) (ht : t < nb) (hg : nb ≤ g) (hr : σ t = .nul) (hf : σ g = .free) : Wk k σ ((σ.set g (.row s [])).set t (.own g s 0)) := by
  rintro G a w - ⟨hd, F, m, h⟩
  have hmg : m g = none := by have := h.blks g hg; rw [hf] at this; exact this
  have h1 := h.slots t ht
  rw [hr] at h1
  have h2 := h.name (δ := .row s []) hg hf (Chg.refl w F noBlocks) h.wf none (.inl ⟨rfl, by simp⟩) (fun b hb => by cases hb) (fun b hb => by cases hb)
  refine ⟨hd, F, _, h2.recast ht ?_⟩
  generalize a.tmps.getD t undef = y at h1
  cases h1 with
  | nul _ a => exact .own0 _ g s a (by simp)

/-- The same in a cell of one's own. -/
theorem wk_rowO (q g : Nat) (s j : Nat) {cs : List D} (hq : nb ≤ q) (hg : nb ≤ g) (hqg : q ≠ g) (hr : σ q = .obj cs) (hj : cs[j]? = some .nul) (hf : σ g = .free) : Wk k σ ((σ.set g (.row s [])).set q (.obj (cs.set j (.own g s 0)))) := by
  rintro G a w - ⟨hd, F, m, h⟩
  have hmg : m g = none := by have := h.blks g hg; rw [hf] at this; exact this
  have h2 := h.name (δ := .row s []) hg hf (Chg.refl w F noBlocks) h.wf none (.inl ⟨rfl, by simp⟩) (fun b hb => by cases hb) (fun b hb => by cases hb)
  have e : (σ.set g (.row s [])) q = .obj cs := by rw [Env.set_ne _ _ _ _ hqg, hr]
  refine ⟨hd, F, _, h2.turn hq (by rw [e]; rfl) (Chg.refl w F _) h.wf ?_ (fun e => by cases e)⟩
  have h3 := h2.blks q hq
  rw [e] at h3
  obtain ⟨b, cur, T, hm, hb, hc, hF⟩ := h3
  refine ⟨b, cur, T, hm, hb, ⟨by rw [List.length_set]; exact hc.len, hc.one, fun i d u hd hu => ?_⟩, hF⟩
  rw [List.getElem?_set] at hd
  split at hd
  · rename_i hij
    subst hij
    split at hd
    · obtain rfl : D.own g s 0 = d := by simpa using hd
      have h4 := hc.fz j _ u hj hu
      cases h4 with
      | nul _ a => exact .own0 _ g s a (by simp)
    · cases hd
  · exact hc.fz i d u hd hu

theorem acc_none {B : List Nat} {l : List GI} {e : Ent} (h : evG P B l σ none N) : evG P B l σ (hold (push e none)) N := h
theorem does0 {xo : List Nat} {f : FuncId} {n : Nat} {dc : DC} {rs : List Res} (hc : cfun P xo f = some (n, dc, rs)) (hm : P.follows .mixedOrders = true) {ds : List D} {r : D} (hl : ds.length ≤ n)
    (hd : dwp P 0 dc (hold (ent [] ds)) (Fin 0 rs r []) (fun _ _ => False) (Fin 0 rs r [])) : Does P f [] ds r [] := does_of hc hm hl hd
theorem does {xo : List Nat} {f : FuncId} {n : Nat} {dc : DC} {rs : List Res} (hc : cfun P xo f = some (n, dc, rs)) (hm : P.follows .mixedOrders = true) {H ds H' : List D} {r : D} (hl : ds.length ≤ n) (k : Nat) (hk : H.length = k)
    (hd : dwp P k dc (hold (ent H ds)) (Fin k rs r H') (fun _ _ => False) (Fin k rs r H')) : Does P f H ds r H' := by
  subst hk
  exact does_of hc hm hl hd
end
attribute [go_sem] hold_eq push_some oldOk newOk resD resOk Res.val Res.ok agr agr1 finB In.upd In.ok In.ent Opd.val Opd.rd optRd Env.put skipUpd set_get base_get ent entL ofL ptrC ptrO ptrOk ptrRoot ptrD ptrMv elemSet stoU notPtr seqD seqOk seqRoot isSl lenD lenOk freeN_eq nb_eq frzU frzO D.frz D.frzL D.pur D.purL D.ren D.renL D.isBlk D.nmd nameOf callU List.zip_cons_cons List.zip_nil_left Nat.add_zero Nat.zero_add D.cells D.one D.getC D.getCok D.asC D.asCok D.int? D.setC D.setAll binD binOk binV binVok binS binSok eqB eqOk fillD fillOk elemsD elemsOk mmV intD intOk boundD boundOk Option.toList_some Option.toList_none List.flatMap_cons List.flatMap_nil List.map_nil List.map_cons List.cons_append List.nil_append List.append_nil List.getD_cons_zero List.getD_cons_succ List.getD_eq_getElem?_getD List.getElem?_cons_zero List.getElem?_cons_succ List.getElem?_nil List.set_cons_zero List.set_cons_succ List.take_succ_cons List.take_zero List.drop_succ_cons List.drop_zero List.length_cons List.length_nil List.length_map List.replicate_succ List.replicate_zero Option.getD_some Option.getD_none Option.isSome_some and_true true_and and_self and_false false_and or_true true_or or_false false_or Value.oneCell' Bool.not_true Bool.not_false Bool.and_self Bool.and_true Bool.true_and ne_eq not_false_eq_true not_true_eq_false Int.toNat_natCast Option.some.injEq Bool.false_eq_true decide_true decide_false
end Go.Proofs.Ytimpofjjndbofaa
