/-
  Steps on plain data: a region whose operations have each a plain meaning, and of which those that touch one another are ordered, has the meaning of its operations in the order of the text. No condition.
-/
import Derived.Test.YtimpofjjndbofaaVReg
namespace Go.Proofs.Ytimpofjjndbofaa
open Go.RowKit

/-- What a step reads, what it writes. -/
structure Ent where
  rd : List Nat
  wr : List Nat

/-- Operation i, wherever the slots that it reads hold what they hold in σ, writes what 'upd' says. -/
structure StepOK (P : Program) (ops : Array Oper) (G : Ctx) (i : Nat) (e : Ent) (σ : Env) (upd : Upd) : Prop where
  wr : ∀ p, p ∈ upd → p.1 ∈ e.wr
  run : ∀ (τ : Env) (a : Act) (w : World) (K : Act → World → Prop) (Q : Exit → Act → World → Prop), (∀ t, t ∈ e.rd → τ t = σ t) →
    Rel G τ a w → (∀ a' w', Rel G (Env.put upd τ) a' w' → K a' w') → wpOp P ops Q i K a w

/-- The steps one after the other. -/
def Chain (P : Program) (ops : Array Oper) (G : Ctx) : Nat → Env → List (Ent × Upd) → Prop
  | i, _, [] => i = ops.size
  | i, σ, p :: l => StepOK P ops G i p.1 σ p.2 ∧ Chain P ops G (i + 1) (Env.put p.2 σ) l

abbrev Entry := Ent × Upd

/-- The slots behind those steps that f tells. -/
def stOf : List Entry → (Nat → Bool) → Nat → Env → Env
  | [], _, _, σ => σ
  | p :: l, f, i, σ => stOf l f (i + 1) (if f i then Env.put p.2 σ else σ)

def wrs (p : Entry) (t : Nat) : Prop := ∃ q, q ∈ p.2 ∧ q.1 = t

theorem stOf_agree (l : List Entry) : ∀ (f g : Nat → Bool) (i : Nat) (σ τ : Env) (t : Nat), σ t = τ t →
    (∀ k p, l[k]? = some p → wrs p t → f (i + k) = g (i + k)) → stOf l f i σ t = stOf l g i τ t := by
  induction l with
  | nil => intro f g i σ τ t h _; exact h
  | cons p l ih =>
    intro f g i σ τ t h hfg
    refine ih f g (i + 1) _ _ t ?_ (fun k q hk hw => ?_)
    · by_cases hw : wrs p t
      · have e := hfg 0 p rfl hw
        rw [Nat.add_zero] at e
        rw [e]
        cases g i
        · exact h
        · exact Env.put_in _ _ _ _ hw
      · have o : ∀ τ : Env, Env.put p.2 τ t = τ t := fun τ => Env.put_out _ _ _ (fun q hq e => hw ⟨q, hq, e⟩)
        cases f i <;> cases g i <;> simp [o, h]
    · have := hfg (k + 1) q (by simpa using hk) hw
      rwa [show i + (k + 1) = i + 1 + k by omega] at this

theorem stOf_still (l : List Entry) (f : Nat → Bool) (i : Nat) (σ : Env) (t : Nat) (h : ∀ k p, l[k]? = some p → wrs p t → f (i + k) = false) : stOf l f i σ t = σ t := by
  induction l generalizing i σ with
  | nil => rfl
  | cons p l ih =>
    rw [stOf, ih (i + 1) _ (fun k q hk hw => by
      have := h (k + 1) q (by simpa using hk) hw
      rwa [show i + (k + 1) = i + 1 + k by omega] at this)]
    by_cases hw : wrs p t
    · have e := h 0 p rfl hw
      rw [Nat.add_zero] at e
      rw [e]; rfl
    · cases f i
      · rfl
      · exact Env.put_out _ _ _ (fun q hq e => hw ⟨q, hq, e⟩)

theorem stOf_append (l m : List Entry) : ∀ (f : Nat → Bool) (i : Nat) (σ : Env), stOf (l ++ m) f i σ = stOf m f (i + l.length) (stOf l f i σ) := by
  induction l with
  | nil => intro f i σ; rfl
  | cons p l ih => intro f i σ; rw [List.cons_append, stOf, ih, stOf, List.length_cons, show i + 1 + l.length = i + (l.length + 1) by omega]

theorem Chain.at {P : Program} {ops : Array Oper} {G : Ctx} (l : List Entry) : ∀ (i : Nat) (σ : Env), Chain P ops G i σ l → ∀ k p, l[k]? = some p →
    StepOK P ops G (i + k) p.1 (stOf l (fun j => decide (j < i + k)) i σ) p.2 := by
  induction l with
  | nil => intro i σ _ k p hk; cases k <;> cases hk
  | cons q l ih =>
    intro i σ h k p hk
    cases k with
    | zero =>
      obtain rfl : q = p := by simpa using hk
      have e : stOf (q :: l) (fun j => decide (j < i + 0)) i σ = σ := by
        funext t
        exact stOf_still _ _ _ _ _ (fun k p _ _ => by simp)
      rw [e]
      exact h.1
    | succ k =>
      have := ih (i + 1) _ h.2 k p (by simpa using hk)
      rw [show i + 1 + k = i + (k + 1) by omega] at this
      rw [stOf, if_pos (by simp)]
      exact this

theorem Chain.size {P : Program} {ops : Array Oper} {G : Ctx} (l : List Entry) : ∀ (i : Nat) (σ : Env), Chain P ops G i σ l → i + l.length = ops.size := by
  induction l with
  | nil => intro i σ h; exact h
  | cons q l ih => intro i σ h; have := ih (i + 1) _ h.2; rw [List.length_cons]; omega

/-- Which operations stand ahead of one, as bits. -/
def cloStep (acc : List Nat) (es : List Edge) : Nat := es.foldl (fun s e => if Region.binds .any e then s ||| (2 ^ e.on ||| acc.getD e.on 0) else s) 0
def clo : List Oper → List Nat → List Nat
  | [], acc => acc
  | o :: l, acc => clo l (acc ++ [cloStep acc o.after.toList])

theorem cloFold_bit (acc : List Nat) (i : Nat) (es : List Edge) : ∀ s : Nat, (es.foldl (fun s e => if Region.binds .any e then s ||| (2 ^ e.on ||| acc.getD e.on 0) else s) s).testBit i = true →
    s.testBit i = true ∨ ∃ e, e ∈ es ∧ Region.binds .any e = true ∧ (e.on = i ∨ (acc.getD e.on 0).testBit i = true) := by
  induction es with
  | nil => intro s h; exact .inl h
  | cons e es ih =>
    intro s h
    rcases ih _ h with h | ⟨e', he, hb, h⟩
    · dsimp only at h
      by_cases hb : Region.binds .any e = true
      · rw [if_pos hb, Nat.testBit_or, Nat.testBit_or, Bool.or_eq_true, Bool.or_eq_true] at h
        rcases h with h | h | h
        · exact .inl h
        · refine .inr ⟨e, List.mem_cons_self .., hb, .inl ?_⟩
          rw [Nat.testBit_two_pow] at h
          simpa using h
        · exact .inr ⟨e, List.mem_cons_self .., hb, .inr h⟩
      · rw [if_neg hb] at h; exact .inl h
    · exact .inr ⟨e', List.mem_cons_of_mem _ he, hb, h⟩

theorem cloStep_bit {acc : List Nat} {i : Nat} {es : List Edge} (h : (cloStep acc es).testBit i = true) :
    ∃ e, e ∈ es ∧ Region.binds .any e = true ∧ (e.on = i ∨ (acc.getD e.on 0).testBit i = true) := by
  rcases cloFold_bit acc i es 0 h with h | h
  · simp at h
  · exact h

theorem clo_keeps (l : List Oper) : ∀ (acc : List Nat) (j : Nat), j < acc.length → (clo l acc).getD j 0 = acc.getD j 0 := by
  induction l with
  | nil => intro acc j _; rfl
  | cons o l ih =>
    intro acc j hj
    rw [clo, ih _ _ (by simp; omega)]
    simp [List.getD_eq_getElem?_getD, List.getElem?_append_left hj]

theorem clo_at (l : List Oper) : ∀ (acc : List Nat) (k : Nat) (o : Oper), l[k]? = some o → (∀ e, e ∈ o.after.toList → Region.binds .any e = true → e.on < acc.length + k) →
    ∀ i, ((clo l acc).getD (acc.length + k) 0).testBit i = true → ∃ e, e ∈ o.after.toList ∧ Region.binds .any e = true ∧ (e.on = i ∨ ((clo l acc).getD e.on 0).testBit i = true) := by
  induction l with
  | nil => intro acc k o h; cases k <;> cases h
  | cons q l ih =>
    intro acc k o h hlt i hi
    cases k with
    | zero =>
      obtain rfl : q = o := by simpa using h
      rw [clo, Nat.add_zero, clo_keeps _ _ _ (by simp)] at hi
      have e1 : (acc ++ [cloStep acc q.after.toList]).getD acc.length 0 = cloStep acc q.after.toList := by simp [List.getD_eq_getElem?_getD]
      rw [e1] at hi
      obtain ⟨e, he, hb, hc⟩ := cloStep_bit hi
      refine ⟨e, he, hb, hc.imp id (fun hc => ?_)⟩
      have hl := hlt e he hb
      rw [clo, clo_keeps _ _ _ (by simp; omega)]
      simpa [List.getD_eq_getElem?_getD, List.getElem?_append_left (show e.on < acc.length by omega)] using hc
    | succ k =>
      have hl : (acc ++ [cloStep acc q.after.toList]).length = acc.length + 1 := by simp
      have := ih (acc ++ [cloStep acc q.after.toList]) k o (by simpa using h) (fun e he hb => by have := hlt e he hb; omega) i (by rw [hl, show acc.length + 1 + k = acc.length + (k + 1) by omega]; exact hi)
      exact this

/-- No operation waits for a later one. -/
def edgesOk : Nat → List Oper → Bool
  | _, [] => true
  | k, o :: l => (o.after.toList.all fun e => !Region.binds .any e || decide (e.on < k)) && edgesOk (k + 1) l
theorem edgesOk_spec (l : List Oper) : ∀ k, edgesOk k l = true → ∀ (j : Nat) (o : Oper), l[j]? = some o → ∀ e, e ∈ o.after.toList → Region.binds .any e = true → e.on < k + j := by
  induction l with
  | nil => intro k _ j o h; cases j <;> cases h
  | cons q l ih =>
    intro k h j o hj e he hb
    rw [edgesOk, Bool.and_eq_true, List.all_eq_true] at h
    cases j with
    | zero =>
      obtain rfl : q = o := by simpa using hj
      have := h.1 e he
      rw [hb] at this
      simpa using this
    | succ j => have := ih (k + 1) h.2 j o (by simpa using hj) e he hb; omega

/-- What stands ahead of an operation that is ready, or done, is done. -/
theorem clo_done {ops : List Oper} (hed : edgesOk 0 ops = true) (f : Nat → Bool) (hf : ∀ k o, f k = true → ops[k]? = some o → ∀ e, e ∈ o.after.toList → Region.binds .any e = true → f e.on = true) :
    ∀ (j : Nat) (o : Oper), ops[j]? = some o → (∀ e, e ∈ o.after.toList → Region.binds .any e = true → f e.on = true) → ∀ i, ((clo ops []).getD j 0).testBit i = true → f i = true := by
  intro j
  induction j using Nat.strongRecOn with
  | _ j ih =>
    intro o ho hr i hi
    have hlt := edgesOk_spec ops 0 hed j o ho
    obtain ⟨e, he, hb, hc⟩ := clo_at ops [] j o ho (by simpa using hlt) i (by simpa using hi)
    have hfe := hr e he hb
    rcases hc with rfl | hc
    · exact hfe
    · have hj : e.on < j := by have := hlt e he hb; omega
      have hjl : j < ops.length := (List.getElem?_eq_some_iff.1 ho).1
      have hoe : ops[e.on]? = some ops[e.on] := List.getElem?_eq_getElem (by omega)
      exact ih e.on hj _ hoe (fun e' he' hb' => hf e.on _ hfe hoe e' he' hb') i hc

def apartL (a b : List Nat) : Bool := a.all fun x => !b.contains x
theorem apartL_spec {a b : List Nat} (h : apartL a b = true) {x : Nat} (ha : x ∈ a) (hb : x ∈ b) : False := by
  rw [apartL, List.all_eq_true] at h
  have := h x ha
  simp [hb] at this

/-- Two steps, the first ahead in the text: they are ordered, or touch nothing of one another. -/
def okPair (B : List Nat) (i j : Nat) (a b : Ent) : Bool :=
  (B.getD j 0).testBit i || (apartL a.wr b.rd && apartL b.wr a.rd && apartL a.wr b.wr)
def okAgainst (B : List Nat) (i : Nat) (a : Ent) : Nat → List Ent → Bool
  | _, [] => true
  | j, b :: l => okPair B i j a b && okAgainst B i a (j + 1) l
def okPairs (B : List Nat) : Nat → List Ent → Bool
  | _, [] => true
  | i, a :: l => okAgainst B i a (i + 1) l && okPairs B (i + 1) l

theorem okAgainst_spec (B : List Nat) (i : Nat) (a : Ent) (l : List Ent) : ∀ j, okAgainst B i a j l = true → ∀ (k : Nat) (b : Ent), l[k]? = some b → okPair B i (j + k) a b = true := by
  induction l with
  | nil => intro j _ k b h; cases k <;> cases h
  | cons q l ih =>
    intro j h k b hk
    rw [okAgainst, Bool.and_eq_true] at h
    cases k with
    | zero => obtain rfl : q = b := by simpa using hk
              exact h.1
    | succ k => have := ih (j + 1) h.2 k b (by simpa using hk); rwa [show j + 1 + k = j + (k + 1) by omega] at this
theorem okPairs_spec (B : List Nat) (l : List Ent) : ∀ i, okPairs B i l = true → ∀ (j k : Nat) (a b : Ent), l[j]? = some a → l[k]? = some b → j < k → okPair B (i + j) (i + k) a b = true := by
  induction l with
  | nil => intro i _ j k a b h; cases j <;> cases h
  | cons q l ih =>
    intro i h j k a b ha hb hjk
    rw [okPairs, Bool.and_eq_true] at h
    cases j with
    | zero =>
      obtain rfl : q = a := by simpa using ha
      obtain ⟨k, rfl⟩ : ∃ m, k = m + 1 := ⟨k - 1, by omega⟩
      have := okAgainst_spec B i q l (i + 1) h.1 k b (by simpa using hb)
      rwa [show i + 1 + k = i + (k + 1) by omega] at this
    | succ j =>
      obtain ⟨k, rfl⟩ : ∃ m, k = m + 1 := ⟨k - 1, by omega⟩
      have := ih (i + 1) h.2 j k a b (by simpa using ha) (by simpa using hb) (by omega)
      rwa [show i + 1 + j = i + (j + 1) by omega, show i + 1 + k = i + (k + 1) by omega] at this

/-- How many are not done. -/
def left (listed : Array Bool) (n : Nat) : Nat := (List.range n).countP fun k => !listed.getD k false
theorem countP_turn {l : List Nat} (hn : l.Nodup) {p q : Nat → Bool} {j : Nat} (hj : j ∈ l) (hp : p j = true) (hq : q j = false) (h : ∀ k, k ≠ j → q k = p k) : l.countP p = l.countP q + 1 := by
  induction l with
  | nil => cases hj
  | cons x l ih =>
    rw [List.nodup_cons] at hn
    rw [List.countP_cons, List.countP_cons]
    by_cases e : x = j
    · subst e
      have : l.countP p = l.countP q := List.countP_congr (fun k hk => by rw [h k (fun e => hn.1 (e ▸ hk))])
      simp [hp, hq, this]
    · have hjl : j ∈ l := by cases hj with
        | head => exact absurd rfl e
        | tail _ h => exact h
      rw [ih hn.2 hjl, h x e]
      omega

section
variable {P : Program} {ops : Array Oper} {G : Ctx} {Q : Exit → Act → World → Prop} {σ : Env} {l : List Entry}

theorem any_of_chain (hc : Chain P ops G 0 σ l) (hord : okPairs (clo ops.toList []) 0 (l.map (·.1)) = true) (hed : edgesOk 0 ops.toList = true)
    (hQ : ∀ a' w', Rel G (stOf l (fun _ => true) 0 σ) a' w' → Q .normal a' w') :
    ∀ (fuel : Nat) (listed : Array Bool) (a : Act) (w : World), listed.size = ops.size → left listed ops.size ≤ fuel →
      (∀ (k : Nat) (o : Oper), listed.getD k false = true → ops.toList[k]? = some o → ∀ e, e ∈ o.after.toList → Region.binds .any e = true → listed.getD e.on false = true) →
      Rel G (stOf l (fun k => listed.getD k false) 0 σ) a w → wpAny P .any ops Q fuel listed a w := by
  have hsz : l.length = ops.size := by have := hc.size; omega
  have hpair := okPairs_spec _ _ 0 hord
  have done : ∀ (listed : Array Bool) (a : Act) (w : World), listed.size = ops.size → Region.ready .any ops listed = [] → Rel G (stOf l (fun k => listed.getD k false) 0 σ) a w → Q .normal a w := by
    intro listed a w hls hr hR
    have hall : ∀ k, k < ops.size → listed.getD k false = true := by
      intro k
      induction k using Nat.strongRecOn with
      | _ k ih =>
        intro hk
        cases hlk : listed.getD k false with
        | true => rfl
        | false =>
          exfalso
          have hmem : k ∈ Region.ready .any ops listed := by
            rw [mem_ready]
            have hls' : k < listed.size := by omega
            refine ⟨?_, ops[k], Array.getElem?_eq_getElem hk, fun e he hb => ?_⟩
            · simp [hls'] at hlk ⊢; exact hlk
            · have := edgesOk_spec ops.toList 0 hed k ops[k] (by simp [hk]) e (by simpa using he) hb
              exact ih e.on (by omega) (by omega)
          rw [hr] at hmem
          cases hmem
    refine hQ a w (hR.ext (fun t => stOf_agree l _ _ 0 σ σ t rfl (fun k p hk _ => ?_)))
    rw [Nat.zero_add]
    exact hall k (by have := (List.getElem?_eq_some_iff.1 hk).1; omega)
  intro fuel
  induction fuel with
  | zero =>
    intro listed a w hls hleft hcl hR
    have hr : Region.ready .any ops listed = [] := by
      cases hr : Region.ready .any ops listed with
      | nil => rfl
      | cons j rs =>
        exfalso
        have hj : j ∈ Region.ready .any ops listed := by rw [hr]; exact List.mem_cons_self ..
        obtain ⟨h0, o, ho, _⟩ := mem_ready.1 hj
        have hjo := (Array.getElem?_eq_some_iff.1 ho).1
        have hjl : j < listed.size := by omega
        have h00 : listed.getD j false = false := by simp [hjl] at h0 ⊢; exact h0
        have : 0 < left listed ops.size := List.countP_pos_iff.2 ⟨j, List.mem_range.2 hjo, by rw [h00]; rfl⟩
        omega
    exact ⟨hr, done listed a w hls hr hR⟩
  | succ fuel ih =>
    intro listed a w hls hleft hcl hR
    refine ⟨fun hr => done listed a w hls hr hR, fun j hj => ?_⟩
    obtain ⟨h0, o, ho, hpre⟩ := mem_ready.1 hj
    have hjo := (Array.getElem?_eq_some_iff.1 ho).1
    have hjl : j < listed.size := by omega
    have h00 : listed.getD j false = false := by simp [hjl] at h0 ⊢; exact h0
    have hoL : ops.toList[j]? = some o := by simpa using ho
    have hpre' : ∀ e, e ∈ o.after.toList → Region.binds .any e = true → listed.getD e.on false = true := fun e he hb => hpre e (by simpa using he) hb
    have hclo := clo_done hed (fun k => listed.getD k false) hcl
    have hjp : l[j]? = some l[j] := List.getElem?_eq_getElem (by omega)
    generalize l[j] = p at hjp
    have hst := hc.at l 0 σ j p hjp
    rw [Nat.zero_add] at hst
    -- who is done though it stands behind, or is not though it stands ahead, touches nothing of j
    have behind : ∀ (k : Nat) (q : Entry), l[k]? = some q → j < k → listed.getD k false = true → ((clo ops.toList []).getD k 0).testBit j = false := by
      intro k q hk hjk hf
      cases hb : ((clo ops.toList []).getD k 0).testBit j with
      | false => rfl
      | true =>
        exfalso
        have hkl : k < ops.size := by have := (List.getElem?_eq_some_iff.1 hk).1; omega
        have hok : ops.toList[k]? = some ops[k] := by simp [hkl]
        have := hclo k _ hok (hcl k _ hf hok) j hb
        rw [h00] at this
        cases this
    have ahead : ∀ (k : Nat) (q : Entry), l[k]? = some q → k < j → listed.getD k false = false → ((clo ops.toList []).getD j 0).testBit k = false := by
      intro k q hk hkj hf
      cases hb : ((clo ops.toList []).getD j 0).testBit k with
      | false => rfl
      | true =>
        exfalso
        have := hclo j o hoL hpre' k hb
        rw [hf] at this
        cases this
    have hm : ∀ (k : Nat) (q : Entry), l[k]? = some q → (l.map (·.1))[k]? = some q.1 := fun k q hk => by simp [hk]
    have pjk : ∀ (k : Nat) (q : Entry), l[k]? = some q → j < k → listed.getD k false = true → apartL p.1.wr q.1.rd = true ∧ apartL q.1.wr p.1.rd = true ∧ apartL p.1.wr q.1.wr = true := by
      intro k q hk hjk hf
      have h1 := hpair j k p.1 q.1 (hm j p hjp) (hm k q hk) hjk
      rw [Nat.zero_add, Nat.zero_add, okPair, behind k q hk hjk hf] at h1
      simp only [Bool.false_or, Bool.and_eq_true] at h1
      exact ⟨h1.1.1, h1.1.2, h1.2⟩
    have pkj : ∀ (k : Nat) (q : Entry), l[k]? = some q → k < j → listed.getD k false = false → apartL q.1.wr p.1.rd = true := by
      intro k q hk hkj hf
      have h1 := hpair k j q.1 p.1 (hm k q hk) (hm j p hjp) hkj
      rw [Nat.zero_add, Nat.zero_add, okPair, ahead k q hk hkj hf] at h1
      simp only [Bool.false_or, Bool.and_eq_true] at h1
      exact h1.1.1
    have wrof : ∀ (k : Nat) (q : Entry), l[k]? = some q → ∀ t, wrs q t → t ∈ q.1.wr := by
      intro k q hk t ⟨x, hx, he⟩
      have := (hc.at l 0 σ k q hk).wr x hx
      rwa [he] at this
    have hagree : ∀ t, t ∈ p.1.rd → stOf l (fun k => listed.getD k false) 0 σ t = stOf l (fun i => decide (i < j)) 0 σ t := by
      intro t ht
      refine stOf_agree l _ _ 0 σ σ t rfl (fun k q hk hw => ?_)
      rw [Nat.zero_add]
      have hwq := wrof k q hk t hw
      rcases Nat.lt_trichotomy k j with h | rfl | h
      · simp only [h, decide_true]
        cases hf : listed.getD k false with
        | true => rfl
        | false => exact (apartL_spec (pkj k q hk h hf) hwq ht).elim
      · simp [h00]
      · have hn : ¬ k < j := by omega
        simp only [hn, decide_false]
        cases hf : listed.getD k false with
        | false => rfl
        | true => exact (apartL_spec (pjk k q hk h hf).2.1 hwq ht).elim
    refine hst.run _ a w _ Q hagree hR (fun a' w' hR' => ?_)
    · have hset : ∀ k, (listed.setIfInBounds j true).getD k false = if k = j then true else listed.getD k false := by
        intro k
        by_cases e : k = j
        · subst e; simp [hjl]
        · rw [if_neg e, getD_set_ne false (fun h => e h.symm)]
      refine ih _ a' w' (by simpa using hls) ?_ (fun k q hk hq e he hb => ?_) (hR'.ext (fun t => ?_))
      · have := countP_turn (List.nodup_range (n := ops.size)) (p := fun k => !listed.getD k false) (q := fun k => !(listed.setIfInBounds j true).getD k false) (j := j) (List.mem_range.2 hjo)
          (by rw [h00]; rfl) (by rw [hset, if_pos rfl]; rfl) (fun k hk => by rw [hset, if_neg hk])
        unfold left at *
        omega
      · rw [hset] at hk ⊢
        split
        · rfl
        · split at hk
          · rename_i e1
            subst e1
            rw [hoL] at hq
            obtain rfl : o = q := by simpa using hq
            exact hpre' e he hb
          · exact hcl k q hk hq e he hb
      · -- the slots behind j
        obtain ⟨l1, l2, hl, hl1⟩ : ∃ l1 l2, l = l1 ++ p :: l2 ∧ l1.length = j := by
          refine ⟨l.take j, l.drop (j + 1), ?_, by simp; omega⟩
          have := List.getElem_of_getElem? hjp
          obtain ⟨hh, rfl⟩ := this
          rw [List.getElem_cons_drop, List.take_append_drop]
        have side : ∀ f : Nat → Bool, stOf l f 0 σ = stOf l2 f (j + 1) (if f j then Env.put p.2 (stOf l1 f 0 σ) else stOf l1 f 0 σ) := by
          intro f
          rw [hl, stOf_append, Nat.zero_add, hl1]
          rfl
        have at2 : ∀ (k : Nat) (q : Entry), l2[k]? = some q → l[j + 1 + k]? = some q := by
          intro k q hk
          rw [hl, List.getElem?_append_right (by omega), hl1, show j + 1 + k - j = k + 1 by omega]
          simpa using hk
        rw [side, side, hset j, if_pos rfl, if_pos rfl]
        have e1 : stOf l1 (fun k => (listed.setIfInBounds j true).getD k false) 0 σ = stOf l1 (fun k => listed.getD k false) 0 σ := by
          funext u
          refine stOf_agree l1 _ _ 0 σ σ u rfl (fun k q hk _ => ?_)
          rw [Nat.zero_add, hset, if_neg (by have := (List.getElem?_eq_some_iff.1 hk).1; omega)]
        rw [e1, h00]
        simp only [Bool.false_eq_true, if_false]
        by_cases hw : wrs p t
        · have still : ∀ (k : Nat) (q : Entry), l2[k]? = some q → wrs q t → listed.getD (j + 1 + k) false = false := by
            intro k q hk hwq
            cases hf : listed.getD (j + 1 + k) false with
            | false => rfl
            | true => exact (apartL_spec (pjk (j + 1 + k) q (at2 k q hk) (by omega) hf).2.2 (wrof j p hjp t hw) (wrof _ q (at2 k q hk) t hwq)).elim
          rw [stOf_still l2 _ (j + 1) _ t (fun k q hk hwq => by rw [hset, if_neg (by omega)]; exact still k q hk hwq)]
          exact Env.put_in _ _ _ _ hw
        · rw [Env.put_out _ _ _ (fun q hq e => hw ⟨q, hq, e⟩)]
          exact stOf_agree l2 _ _ (j + 1) _ _ t (Env.put_out _ _ _ (fun q hq e => hw ⟨q, hq, e⟩)).symm (fun k q hk _ => by rw [hset, if_neg (by omega)])

end
end Go.Proofs.Ytimpofjjndbofaa
