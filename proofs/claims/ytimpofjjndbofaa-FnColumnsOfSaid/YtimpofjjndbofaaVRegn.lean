/-
  Regions on plain data: instructions with their guards, one after the other; a region of the program, in whatever order, does what they say. No condition.
-/
import Derived.Test.YtimpofjjndbofaaVFrz
namespace Go.Proofs.Ytimpofjjndbofaa
open Go.RowKit

/-- An instruction, the slot that it writes, the slot that lets it; whether it is a call. -/
structure GI where
  ins : In
  dst : Option Nat
  g : Option (Nat × Bool)
  c : Bool

def skipUpd : Option Nat → Upd
  | none => []
  | some d => [(d, .v undef)]

/-- An operation: a call, or not. -/
def copc (P : Program) (N : Nat) (xo : List Nat) (o : Oper) : Option (In × Bool) :=
  oif (o.dst.all fun d => decide (d < N)) (match o.dst.bind (ccall P o) with
    | some ins => some (ins, true)
    | none => (cop P N xo o).bind fun ins => some (ins, false))
def cgi (P : Program) (N : Nat) (xo : List Nat) (ops : Array Oper) (o : Oper) : Option GI :=
  (copc P N xo o).bind fun q => match o.guard with
    | none => some ⟨q.1, o.dst, none, q.2⟩
    | some (g, v) => ((ops[g]?).bind (·.dst)).bind fun s => oif (decide (s < N)) (some ⟨q.1, o.dst, some (s, v), q.2⟩)
def cgis (P : Program) (N : Nat) (xo : List Nat) (ops : Array Oper) : List Oper → Option (List GI)
  | [] => some []
  | o :: l => (cgi P N xo ops o).bind fun gi => (cgis P N xo ops l).bind fun m => some (gi :: m)

/-- What an operation read so writes, wherever the slots that it reads hold what they hold in σ. -/
def OpSem (P : Program) (ins : In) (c : Bool) (σ : Env) (e : Ent) (upd : Upd) : Prop := ∀ (G : Ctx) (xo : List Nat) (o : Oper), copc P G.n xo o = some (ins, c) → OpOK P G o e σ upd
def StepSem (P : Program) (gi : GI) (σ : Env) (e : Ent) (upd : Upd) : Prop := ∀ (G : Ctx) (xo : List Nat) (ops : Array Oper) (i : Nat) (o : Oper), ops[i]? = some o → cgi P G.n xo ops o = some gi → StepOK P ops G i e σ upd

def push (e : Ent) : Option (List Ent) → Option (List Ent)
  | none => none
  | some l => some (e :: l)
theorem push_none (e : Ent) : push e none = none := rfl
theorem push_some (e : Ent) (l : List Ent) : push e (some l) = some (e :: l) := rfl

/-- The instructions of a region, one after the other; acc: what those before read and wrote, where the order is drawn. -/
def evG (P : Program) (B : List Nat) : List GI → Env → Option (List Ent) → (Env → Prop) → Prop
  | [], σ, acc, N => (match acc with
    | some a => okPairs B 0 a.reverse = true
    | none => True) ∧ N σ
  | gi :: l, σ, acc, N => ∃ e upd, StepSem P gi σ e upd ∧ evG P B l (Env.put upd σ) (push e acc) N
/-- One instruction, and the rest. -/
def evS (P : Program) (B : List Nat) (rd wr : List Nat) (ins : In) (c : Bool) (l : List GI) (σ : Env) (acc : Option (List Ent)) (N : Env → Prop) : Prop :=
  ∃ e upd, OpSem P ins c σ e upd ∧ evG P B l (Env.put upd σ) (push ⟨rd ++ e.rd, wr ++ e.wr⟩ acc) N
/-- A guarded instruction, by what its guard's slot holds. -/
def evQ (P : Program) (B : List Nat) (d : D) (s : Nat) (v : Bool) (ins : In) (c : Bool) (o : Option Nat) (l : List GI) (σ : Env) (acc : Option (List Ent)) (N : Env → Prop) : Prop :=
  match d with
  | .v (.bool q) => (q = v → evS P B [s] o.toList ins c l σ acc N) ∧ (q = !v → evG P B l (Env.put (skipUpd o) σ) (push ⟨[s], o.toList⟩ acc) N)
  | .v _ => evG P B l (Env.put (skipUpd o) σ) (push ⟨[s], o.toList⟩ acc) N
  | _ => False
/-- A call of f with ds, where the operands were read from rds. -/
def evC (P : Program) (B : List Nat) (f : FuncId) (ds : List D) (rds : List Nat) (d : Nat) (rd wr : List Nat) (l : List GI) (σ : Env) (acc : Option (List Ent)) (N : Env → Prop) : Prop :=
  ∃ (H es H' : List D) (r : D) (R : List Nat), Does P f H es r H' ∧ CallOK σ R H H' ∧ ds = es.map (D.ren R) ∧ evG P B l (Env.put (callU R H' d r) σ) (push ⟨rd ++ (rds ++ R), wr ++ (R ++ [d])⟩ acc) N
def evV (P : Program) (B : List Nat) (x : D) (ds : List D) (rds : List Nat) (d : Nat) (rd wr : List Nat) (l : List GI) (σ : Env) (acc : Option (List Ent)) (N : Env → Prop) : Prop :=
  match x with
  | .fn f cs => enters P f = true ∧ evC P B f (ds ++ cs) rds d rd wr l σ acc N
  | _ => False
def evI (P : Program) (B : List Nat) (x : D) (name : String) (ds : List D) (rds : List Nat) (d : Nat) (rd wr : List Nat) (l : List GI) (σ : Env) (acc : Option (List Ent)) (N : Env → Prop) : Prop :=
  match x with
  | .ifc t e => ∃ f, methOf P t name = some f ∧ evC P B f (e :: ds) rds d rd wr l σ acc N
  | _ => False

section
variable {P : Program} {G : Ctx} {σ : Env} {B : List Nat} {l : List GI} {acc : Option (List Ent)} {N : Env → Prop} {ins : In} {o : Option Nat} {c : Bool} {rd wr : List Nat}

theorem copc_call {xo : List Nat} {n : Nat} {op : Oper} (h : copc P n xo op = some (ins, true)) : ∃ d, op.dst = some d ∧ d < n ∧ ccall P op d = some ins := by
  unfold copc at h
  rw [oif_some] at h
  obtain ⟨h1, h2⟩ := h
  cases hd : op.dst with
  | none =>
    rw [hd] at h2
    simp only [Option.bind_none, Option.bind_eq_some_iff, Option.some.injEq, Prod.mk.injEq, Bool.false_eq_true, and_false, exists_false] at h2
  | some d =>
    rw [hd] at h1 h2
    simp only [Option.all_some, decide_eq_true_eq] at h1
    refine ⟨d, rfl, h1, ?_⟩
    simp only [Option.bind_some] at h2
    cases hc : ccall P op d with
    | none =>
      rw [hc] at h2
      simp only [Option.bind_eq_some_iff, Option.some.injEq, Prod.mk.injEq, Bool.false_eq_true, and_false, exists_false] at h2
    | some i =>
      rw [hc] at h2
      simp only [Option.some.injEq, Prod.mk.injEq, and_true] at h2
      rw [h2]
theorem copc_op {xo : List Nat} {n : Nat} {op : Oper} (h : copc P n xo op = some (ins, false)) : cop P n xo op = some ins := by
  unfold copc at h
  rw [oif_some] at h
  obtain ⟨h1, h2⟩ := h
  split at h2
  · simp only [Option.some.injEq, Prod.mk.injEq, Bool.true_eq_false, and_false] at h2
  · simpa only [Option.bind_eq_some_iff, Option.some.injEq, Prod.mk.injEq, and_true, exists_eq_right] using h2
theorem copc_dst {xo : List Nat} {n : Nat} {op : Oper} {q : In × Bool} (h : copc P n xo op = some q) : ∀ d, op.dst = some d → d < n := by
  unfold copc at h
  rw [oif_some] at h
  intro d hd
  rw [hd] at h
  simpa using h.1

theorem wanted_none {o : Oper} (h : o.guard = none) (y : Nat → Option Bool) : Region.wanted o y = true := by
  unfold Region.wanted
  rw [h]
theorem wanted_some {o : Oper} {g : Nat} {v : Bool} (h : o.guard = some (g, v)) (y : Nat → Option Bool) : Region.wanted o y = (y g == some v) := by
  unfold Region.wanted
  rw [h]

theorem cgi_none {xo : List Nat} {n : Nat} {ops : Array Oper} {op : Oper} (h : cgi P n xo ops op = some ⟨ins, o, none, c⟩) : op.guard = none ∧ copc P n xo op = some (ins, c) ∧ op.dst = o := by
  simp only [cgi, Option.bind_eq_some_iff] at h
  obtain ⟨⟨i, c'⟩, hi, h⟩ := h
  cases hg : op.guard with
  | none =>
    rw [hg] at h
    simp only [Option.some.injEq, GI.mk.injEq, true_and] at h
    obtain ⟨rfl, rfl, rfl⟩ := h
    exact ⟨rfl, hi, rfl⟩
  | some p =>
    rw [hg] at h
    simp only [Option.bind_eq_some_iff, oif_some, Option.some.injEq, GI.mk.injEq, reduceCtorEq, false_and, and_false, exists_false] at h
theorem cgi_some {xo : List Nat} {n s : Nat} {v : Bool} {ops : Array Oper} {op : Oper} (h : cgi P n xo ops op = some ⟨ins, o, some (s, v), c⟩) :
    ∃ g og, op.guard = some (g, v) ∧ ops[g]? = some og ∧ og.dst = some s ∧ s < n ∧ copc P n xo op = some (ins, c) ∧ op.dst = o := by
  simp only [cgi, Option.bind_eq_some_iff] at h
  obtain ⟨⟨i, c'⟩, hi, h⟩ := h
  cases hg : op.guard with
  | none =>
    rw [hg] at h
    simp only [Option.some.injEq, GI.mk.injEq, reduceCtorEq, false_and, and_false] at h
  | some p =>
    obtain ⟨g, v'⟩ := p
    rw [hg] at h
    simp only [Option.bind_eq_some_iff, oif_some, Option.some.injEq, GI.mk.injEq, Prod.mk.injEq, decide_eq_true_eq] at h
    obtain ⟨s', ⟨og, hog, hos⟩, hs, rfl, rfl, ⟨rfl, rfl⟩, rfl⟩ := h
    exact ⟨g, og, rfl, hog, hos, hs, hi, rfl⟩

theorem sem_none {e : Ent} {upd : Upd} (h : OpSem P ins c σ e upd) : StepSem P ⟨ins, o, none, c⟩ σ e upd := by
  intro G xo ops i op hi hc
  obtain ⟨hg, hcp, _⟩ := cgi_none hc
  have hop := h G xo op hcp
  refine ⟨hop.wr, fun τ a w K Q hag hR hK => ?_⟩
  unfold wpOp
  rw [hi]
  simp only [wanted_none hg, if_true]
  exact .inl (hop.run τ a w K Q hag hR hK)

/-- What the guard says, wherever its slot holds what it holds. -/
theorem guard_tell {ops : Array Oper} {g s : Nat} {og : Oper} (hog : ops[g]? = some og) (hos : og.dst = some s) (hs : s < G.n) {x : Value} (hx : σ s = .v x) {τ : Env} {a : Act} {w : World} (hτ : τ s = σ s) (hR : Rel G τ a w) :
    yielded ops a.tmps g = (match x with | .bool q => some q | _ => none) := by
  obtain ⟨_, F, m, hR⟩ := hR
  have h1 := hR.slots s (by have := hR.nle; omega)
  rw [hτ, hx] at h1
  have h2 := h1.v_eq
  have h3 : s < a.tmps.size := by rw [hR.size]; exact hs
  have h4 : a.tmps[s]? = some x := by
    rw [Array.getElem?_eq_getElem h3, ← h2]
    simp [Array.getD, h3]
  unfold yielded
  rw [hog]
  show (match ((some og).bind (·.dst)).bind (a.tmps[·]?) with | some (.bool b) => some b | _ => none) = _
  rw [show (some og).bind (·.dst) = some s from hos]
  show (match a.tmps[s]? with | some (.bool b) => some b | _ => none) = _
  rw [h4]
  cases x <;> rfl

theorem sem_run {e : Ent} {upd : Upd} {s : Nat} {v : Bool} (hs : σ s = .v (.bool v)) (h : OpSem P ins c σ e upd) : StepSem P ⟨ins, o, some (s, v), c⟩ σ ⟨[s] ++ e.rd, o.toList ++ e.wr⟩ upd := by
  intro G xo ops i op hi hc
  obtain ⟨g, og, hg, hog, hos, hsn, hcp, _⟩ := cgi_some hc
  have hop := h G xo op hcp
  refine ⟨fun p hp => List.mem_append_right _ (hop.wr p hp), fun τ a w K Q hag hR hK => ?_⟩
  unfold wpOp
  rw [hi]
  have hwt : Region.wanted op (yielded ops a.tmps) = true := by
    rw [wanted_some hg, guard_tell hog hos hsn hs (hag s (List.mem_cons_self ..)) hR]
    simp
  simp only [hwt, if_true]
  exact .inl (hop.run τ a w K Q (fun t ht => hag t (List.mem_append_right _ ht)) hR hK)

theorem sem_skip {x : Value} {s : Nat} {v : Bool} (hs : σ s = .v x) (hx : x ≠ .bool v) : StepSem P ⟨ins, o, some (s, v), c⟩ σ ⟨[s], o.toList⟩ (skipUpd o) := by
  intro G xo ops i op hi hc
  obtain ⟨g, og, hg, hog, hos, hsn, hcp, rfl⟩ := cgi_some hc
  refine ⟨fun p hp => ?_, fun τ a w K Q hag hR hK => ?_⟩
  · cases hd : op.dst with
    | none => rw [hd] at hp; cases hp
    | some d =>
      rw [hd] at hp
      obtain rfl := List.mem_singleton.1 hp
      exact List.mem_singleton.2 rfl
  · unfold wpOp
    rw [hi]
    have hwt : Region.wanted op (yielded ops a.tmps) = false := by
      rw [wanted_some hg, guard_tell hog hos hsn hs (hag s (List.mem_cons_self ..)) hR]
      cases x <;> first | rfl | skip
      rename_i q
      cases q <;> cases v <;> first | rfl | exact absurd rfl hx
    simp only [hwt, Bool.false_eq_true, if_false]
    refine hK _ _ ?_
    cases hd : op.dst with
    | none => exact hR
    | some d =>
      obtain ⟨hdf, F, m, hR⟩ := hR
      exact ⟨hdf, F, m, hR.slot (copc_dst hcp d hd) (.v m undef)⟩

theorem st_nil0 (h : N σ) : evG P B [] σ none N := ⟨trivial, h⟩
theorem st_nil {a : List Ent} (ho : okPairs B 0 a.reverse = true) (h : N σ) : evG P B [] σ (some a) N := ⟨ho, h⟩
theorem st_one (h : evS P B [] [] ins c l σ acc N) : evG P B (⟨ins, o, none, c⟩ :: l) σ acc N := by
  obtain ⟨e, upd, hs, h⟩ := h
  exact ⟨e, upd, sem_none hs, h⟩
theorem st_guard {s : Nat} {v : Bool} (h : evQ P B (hold (σ s)) s v ins c o l σ acc N) : evG P B (⟨ins, o, some (s, v), c⟩ :: l) σ acc N := by
  unfold hold evQ at h
  have run : ∀ q, σ s = .v (.bool q) → q = v → evS P B [s] o.toList ins c l σ acc N → evG P B (⟨ins, o, some (s, v), c⟩ :: l) σ acc N := by
    rintro q hq rfl ⟨e, upd, hs, h⟩
    exact ⟨_, upd, sem_run hq hs, h⟩
  have skip : ∀ x, σ s = .v x → x ≠ .bool v → evG P B l (hold (Env.put (skipUpd o) σ)) (hold (push ⟨[s], o.toList⟩ acc)) N → evG P B (⟨ins, o, some (s, v), c⟩ :: l) σ acc N := fun x hx hne h => ⟨_, _, sem_skip hx hne, h⟩
  cases hs : σ s with
  | v x =>
    rw [hs] at h
    cases x with
    | bool q =>
      by_cases hq : q = v
      · exact run q hs hq (h.1 hq)
      · exact skip _ hs (fun e => hq (by injection e)) (h.2 (by cases q <;> cases v <;> first | rfl | exact absurd rfl hq))
    | _ => exact skip _ hs (fun e => by cases e) h
  | _ => rw [hs] at h; exact h.elim
theorem q_run {s : Nat} (v : Bool) (h : evS P B [s] o.toList ins c l σ acc N) : evQ P B (.v (.bool v)) s v ins c o l σ acc N := ⟨fun _ => h, (fun e => by cases v <;> cases e)⟩
theorem q_tf {s : Nat} (h : evG P B l (hold (Env.put (skipUpd o) σ)) (hold (push ⟨[s], o.toList⟩ acc)) N) : evQ P B (.v (.bool true)) s false ins c o l σ acc N := ⟨(fun e => by cases e), fun _ => h⟩
theorem q_ft {s : Nat} (h : evG P B l (hold (Env.put (skipUpd o) σ)) (hold (push ⟨[s], o.toList⟩ acc)) N) : evQ P B (.v (.bool false)) s true ins c o l σ acc N := ⟨(fun e => by cases e), fun _ => h⟩
theorem q_undef {s : Nat} {v : Bool} (h : evG P B l (hold (Env.put (skipUpd o) σ)) (hold (push ⟨[s], o.toList⟩ acc)) N) : evQ P B (.v undef) s v ins c o l σ acc N := h
theorem q_split {s : Nat} {q v : Bool} (h1 : q = v → evS P B [s] o.toList ins c l σ acc N) (h2 : (q = !v) → evG P B l (hold (Env.put (skipUpd o) σ)) (hold (push ⟨[s], o.toList⟩ acc)) N) : evQ P B (.v (.bool q)) s v ins c o l σ acc N := ⟨h1, h2⟩

theorem q_splitPt {s : Nat} {p : Prop} [Decidable p] (h1 : decide p = true → p → evS P B [s] o.toList ins c l σ acc N) (h2 : decide p = false → ¬ p → evG P B l (hold (Env.put (skipUpd o) σ)) (hold (push ⟨[s], o.toList⟩ acc)) N) :
    evQ P B (.v (.bool (decide p))) s true ins c o l σ acc N := ⟨fun h => h1 h (of_decide_eq_true h), fun h => h2 h (of_decide_eq_false h)⟩
theorem q_splitPf {s : Nat} {p : Prop} [Decidable p] (h1 : decide p = false → ¬ p → evS P B [s] o.toList ins c l σ acc N) (h2 : decide p = true → p → evG P B l (hold (Env.put (skipUpd o) σ)) (hold (push ⟨[s], o.toList⟩ acc)) N) :
    evQ P B (.v (.bool (decide p))) s false ins c o l σ acc N := ⟨fun h => h1 h (of_decide_eq_false h), fun h => h2 h (of_decide_eq_true h)⟩
theorem q_splitEt {s : Nat} {x y : Int} (h1 : (x == y) = true → x = y → evS P B [s] o.toList ins c l σ acc N) (h2 : (x == y) = false → ¬ x = y → evG P B l (hold (Env.put (skipUpd o) σ)) (hold (push ⟨[s], o.toList⟩ acc)) N) :
    evQ P B (.v (.bool (x == y))) s true ins c o l σ acc N := ⟨fun h => h1 h (by simpa using h), fun h => h2 h (by simpa using h)⟩
theorem q_splitEf {s : Nat} {x y : Int} (h1 : (x == y) = false → ¬ x = y → evS P B [s] o.toList ins c l σ acc N) (h2 : (x == y) = true → x = y → evG P B l (hold (Env.put (skipUpd o) σ)) (hold (push ⟨[s], o.toList⟩ acc)) N) :
    evQ P B (.v (.bool (x == y))) s false ins c o l σ acc N := ⟨fun h => h1 h (by simpa using h), fun h => h2 h (by simpa using h)⟩
theorem q_splitNt {s : Nat} {x y : Int} (h1 : (x != y) = true → ¬ x = y → evS P B [s] o.toList ins c l σ acc N) (h2 : (x != y) = false → x = y → evG P B l (hold (Env.put (skipUpd o) σ)) (hold (push ⟨[s], o.toList⟩ acc)) N) :
    evQ P B (.v (.bool (x != y))) s true ins c o l σ acc N := ⟨fun h => h1 h (by simpa using h), fun h => h2 h (by simpa using h)⟩
theorem q_splitNf {s : Nat} {x y : Int} (h1 : (x != y) = false → x = y → evS P B [s] o.toList ins c l σ acc N) (h2 : (x != y) = true → ¬ x = y → evG P B l (hold (Env.put (skipUpd o) σ)) (hold (push ⟨[s], o.toList⟩ acc)) N) :
    evQ P B (.v (.bool (x != y))) s false ins c o l σ acc N := ⟨fun h => h1 h (by simpa using h), fun h => h2 h (by simpa using h)⟩
theorem s_op (hok : hold (ins.ok σ)) (h : evG P B l (hold (Env.put (ins.upd σ) σ)) (hold (push ⟨rd ++ (ins.ent σ).rd, wr ++ (ins.ent σ).wr⟩ acc)) N) : evS P B rd wr ins false l σ acc N :=
  ⟨_, _, fun _ _ _ hc => cop_ok (copc_op hc) hok, h⟩
theorem s_call {d f : Nat} {xs : List Opd} (h : evC P B f (hold (xs.map (Opd.val σ))) (hold (xs.flatMap Opd.rd)) d rd wr l σ acc N) : evS P B rd wr (.call d f xs) true l σ acc N := by
  obtain ⟨H, es, H', r, R, hdo, hc, hds, h⟩ := h
  refine ⟨callE (xs.flatMap Opd.rd) R d, callU R H' d r, fun G xo o hcp => ?_, h⟩
  obtain ⟨d', hdst, hd, hcc⟩ := copc_call hcp
  obtain ⟨rfl, hf, ops, ts, ho, ha⟩ := ccall_call hcc
  exact in_call ho hf ha hdst hd hdo hc hds
theorem s_cal {d : Nat} {x : Opd} {xs : List Opd} (h : evV P B (hold (x.val σ)) (hold (xs.map (Opd.val σ))) (hold (x.rd ++ xs.flatMap Opd.rd)) d rd wr l σ acc N) : evS P B rd wr (.cal d x xs) true l σ acc N := by
  unfold hold evV at h
  cases hx : x.val σ with
  | fn f cs =>
    rw [hx] at h
    obtain ⟨hf, H, es, H', r, R, hdo, hc, hds, h⟩ := h
    refine ⟨callE (x.rd ++ xs.flatMap Opd.rd) R d, callU R H' d r, fun G xo o hcp => ?_, h⟩
    obtain ⟨d', hdst, hd, hcc⟩ := copc_call hcp
    obtain ⟨rfl, y, ops, ts, ho, hy, ha⟩ := ccall_cal hcc
    exact in_cal ho hy ha hdst hd hx hf hdo hc hds
  | _ => rw [hx] at h; exact h.elim
theorem s_inv {d : Nat} {x : Opd} {name : String} {xs : List Opd} (h : evI P B (hold (x.val σ)) name (hold (xs.map (Opd.val σ))) (hold (x.rd ++ xs.flatMap Opd.rd)) d rd wr l σ acc N) : evS P B rd wr (.inv d x name xs) true l σ acc N := by
  unfold hold evI at h
  cases hx : x.val σ with
  | ifc t e =>
    rw [hx] at h
    obtain ⟨f, hm, H, es, H', r, R, hdo, hc, hds, h⟩ := h
    refine ⟨callE (x.rd ++ xs.flatMap Opd.rd) R d, callU R H' d r, fun G xo o hcp => ?_, h⟩
    obtain ⟨d', hdst, hd, hcc⟩ := copc_call hcp
    obtain ⟨rfl, y, ops, ts, ho, hy, ha⟩ := ccall_inv hcc
    exact in_inv ho hy ha hdst hd hx hm hdo hc hds
  | _ => rw [hx] at h; exact h.elim

/-- What is known is put otherwise ahead of a step. -/
def PreOK (σ : Env) (fr : Upd) (r w : List Nat) : Prop := (∀ p, p ∈ fr → p.1 ∈ w) ∧ ∀ (G : Ctx) (τ : Env) (a : Act) (x : World), (∀ t, t ∈ r → τ t = σ t) → Rel G τ a x → Rel G (Env.put fr τ) a x
theorem s_pre {fr : Upd} {r1 w1 : List Nat} (hp : PreOK σ fr r1 w1) (h : evS P B (rd ++ r1) (wr ++ w1) ins c l (hold (Env.put fr σ)) acc N) : evS P B rd wr ins c l σ acc N := by
  obtain ⟨e, upd, hs, h⟩ := h
  refine ⟨⟨r1 ++ e.rd, w1 ++ e.wr⟩, fr ++ upd, fun G xo o hcp => ?_, ?_⟩
  · have hop := hs G xo o hcp
    refine ⟨fun p hpp => ?_, fun τ a w K Q hag hR hK => ?_⟩
    · rcases List.mem_append.1 hpp with hpp | hpp
      · exact List.mem_append_left _ (hp.1 p hpp)
      · exact List.mem_append_right _ (hop.wr p hpp)
    · refine hop.run (Env.put fr τ) a w K Q (fun t ht => Env.put_same _ _ _ _ (hag t (List.mem_append_right _ ht))) (hp.2 G τ a w (fun t ht => hag t (List.mem_append_left _ ht)) hR) (fun a' w' hR' => hK a' w' ?_)
      rw [Env.put_append]
      exact hR'
  · rw [Env.put_append]
    simpa only [List.append_assoc, hold_eq] using h

/-- A slot's row stands still from now on. -/
theorem pre_frz {t g s : Nat} {es : List D} (ht : t < nb) (hg : nb ≤ g) (hr : σ g = .row s es) (hp : D.purL es = true) : PreOK σ (frzU σ t g s es) [t, g] [g, t] := by
  refine ⟨fun p hpp => ?_, fun G τ a x hag hR => ?_⟩
  · simp only [frzU, List.mem_cons, List.not_mem_nil, or_false] at hpp
    rcases hpp with rfl | rfl
    · exact List.mem_cons_self ..
    · exact List.mem_cons_of_mem _ (List.mem_cons_self ..)
  · have h1 := hag t (List.mem_cons_self ..)
    have h2 := hag g (List.mem_cons_of_mem _ (List.mem_cons_self ..))
    have := hR.frz (t := t) ht hg (h2.trans hr) hp
    rw [show frzU τ t g s es = frzU σ t g s es by unfold frzU; rw [h1]] at this
    exact this
/-- An empty slice, of whatever kind. -/
theorem pre_nul {t : Nat} (ht : t < nb) (s : Nat) (hr : σ t = .nul) : PreOK σ [(t, .sl s [])] [t] [t] := by
  refine ⟨fun p hpp => by obtain rfl := List.mem_singleton.1 hpp; exact List.mem_singleton.2 rfl, fun G τ a x hag hR => ?_⟩
  obtain ⟨hd, F, m, h⟩ := hR
  have h1 := h.slots t ht
  rw [hag t (List.mem_singleton.2 rfl), hr] at h1
  refine ⟨hd, F, m, h.recast ht ?_⟩
  generalize a.tmps.getD t undef = y at h1
  cases h1 with
  | nul _ a => exact .sl0 m s a 0

theorem ren_pure (R : List Nat) : ∀ (d : D), d.pur = true → d.ren R = d
  | .any, _ => rfl
  | .v _, _ => rfl
  | .sl _ _, _ => rfl
  | .nul, _ => rfl
  | .agg cs, h => by rw [D.ren, renL_pure R cs h]
  | .tup cs, h => by rw [D.ren, renL_pure R cs h]
  | .ifc t d, h => by rw [D.ren, ren_pure R d h]
  | .fn f cs, h => by rw [D.ren, renL_pure R cs h]
  | .ptr _, _ => rfl
  | .ref _ _, h => by cases h
  | .own _ _ _, h => by cases h
  | .eref _ _ _ _, h => by cases h
  | .obj _, h => by cases h
  | .row _ _, h => by cases h
  | .free, h => by cases h
where renL_pure (R : List Nat) : ∀ (l : List D), D.purL l = true → D.renL R l = l
  | [], _ => rfl
  | d :: l, h => by
    rw [D.purL, Bool.and_eq_true] at h
    rw [D.renL, ren_pure R d h.1, renL_pure R l h.2]

/-- A call without blocks, and without names in what it says. -/
theorem c_does {f : FuncId} {ds : List D} {rds : List Nat} {d : Nat} {r : D} (hdo : Does P f [] ds r []) (hp : D.purL (r :: ds) = true) (h : evG P B l (hold (σ.set d r)) (hold (push ⟨rd ++ (rds ++ []), wr ++ ([] ++ [d])⟩ acc)) N) : evC P B f ds rds d rd wr l σ acc N := by
  rw [D.purL, Bool.and_eq_true] at hp
  refine ⟨[], ds, [], r, [], hdo, ⟨rfl, Nat.le_refl _, List.nodup_nil, (fun g hg => by cases hg), (fun i d g h => by simp at h), (fun i g _ h => by simp at h)⟩, ?_, ?_⟩
  · rw [← D.renL_map, ren_pure.renL_pure _ _ hp.2]
  · show evG P B l (Env.put [(d, r.ren [])] σ) _ N
    rw [ren_pure _ _ hp.1]
    exact h
theorem c_doesE {f : FuncId} {ds es : List D} {rds : List Nat} {d : Nat} {r : D} (hdo : Does P f [] es r []) (he : ds = hold es) (hp : hold (D.purL (r :: ds)) = true) (h : evG P B l (hold (σ.set d r)) (hold (push ⟨rd ++ (rds ++ []), wr ++ ([] ++ [d])⟩ acc)) N) : evC P B f ds rds d rd wr l σ acc N := by
  have he : ds = es := he
  subst he
  exact c_does hdo hp h
/-- A call in general. -/
theorem c_doesR {f : FuncId} {ds H es H' : List D} {rds : List Nat} {d : Nat} {r : D} (R : List Nat) (hdo : Does P f H es r H') (hc : CallOK σ R H H') (hds : ds = hold (es.map (D.ren R))) (h : evG P B l (hold (Env.put (callU R H' d r) σ)) (hold (push ⟨rd ++ (rds ++ R), wr ++ (R ++ [d])⟩ acc)) N) :
    evC P B f ds rds d rd wr l σ acc N := ⟨H, es, H', r, R, hdo, hc, hds, h⟩
def oldOk (σ : Env) (R : List Nat) : List Nat → List D → Prop
  | _, [] => True
  | [], _ :: _ => False
  | g :: l, d :: ds => (d.isBlk = true ∧ σ g = d.ren R) ∧ oldOk σ R l ds
def newOk (σ : Env) : List Nat → Prop
  | [] => True
  | g :: l => σ g = .free ∧ newOk σ l
theorem callOK_of {R : List Nat} {H H' : List D} (hl : R.length = H'.length) (hle : H.length ≤ H'.length) (hR : canB 0 R = true) (ho : hold (oldOk σ R R H)) (hn : hold (newOk σ (R.drop H.length))) : CallOK σ R H H' := by
  have ho : oldOk σ R R H := ho
  have hn : newOk σ (R.drop H.length) := hn
  have hcan := can_of hR
  refine ⟨hl, hle, hcan.nd, hcan.ge, ?_, ?_⟩
  · clear hl hle hR hn hcan
    have : ∀ (L : List Nat) (H : List D), oldOk σ R L H → ∀ (i : Nat) (d : D) (g : Nat), H[i]? = some d → L[i]? = some g → d.isBlk = true ∧ σ g = d.ren R := by
      intro L
      induction L with
      | nil => intro H h i d g _ hg; simp at hg
      | cons g0 L ih =>
        intro H h i d g hd hg
        cases H with
        | nil => simp at hd
        | cons d0 H =>
          cases i with
          | zero =>
            obtain rfl : d0 = d := by simpa using hd
            obtain rfl : g0 = g := by simpa using hg
            exact h.1
          | succ i => exact ih H h.2 i d g (by simpa using hd) (by simpa using hg)
    exact this R H ho
  · intro i g hi hg
    have h1 : (R.drop H.length)[i - H.length]? = some g := by rw [List.getElem?_drop, show H.length + (i - H.length) = i by omega]; exact hg
    revert h1 hn
    generalize R.drop H.length = L
    intro hn h1
    have : ∀ (L : List Nat), newOk σ L → ∀ (i g : Nat), L[i]? = some g → σ g = .free := by
      intro L
      induction L with
      | nil => intro _ i g h; simp at h
      | cons g0 L ih =>
        intro h i g hg
        cases i with
        | zero => obtain rfl : g0 = g := by simpa using hg
                  exact h.1
        | succ i => exact ih h.2 i g (by simpa using hg)
    exact this L hn _ _ h1
theorem v_fn {ds cs : List D} {f d : Nat} {rds : List Nat} (hf : enters P f = true) (h : evC P B f (ds ++ cs) rds d rd wr l σ acc N) : evV P B (.fn f cs) ds rds d rd wr l σ acc N := ⟨hf, h⟩
theorem i_meth {ds : List D} {t : TypeId} {e : D} {f d : Nat} {name : String} {rds : List Nat} (hm : methOf P t name = some f) (h : evC P B f (e :: ds) rds d rd wr l σ acc N) : evI P B (.ifc t e) name ds rds d rd wr l σ acc N := ⟨f, hm, h⟩

/-- A region's chain. -/
theorem gis_ok {xo : List Nat} {ops : Array Oper} : ∀ (l : List Oper) (gis : List GI) (i : Nat) (σ : Env) (acc : Option (List Ent)), ops.toList.drop i = l → i ≤ ops.size → cgis P G.n xo ops l = some gis → evG P B gis σ acc N →
    ∃ es : List Entry, Chain P ops G i σ es ∧ N (stOf es (fun _ => true) i σ) ∧ ∀ a, acc = some a → okPairs B 0 (a.reverse ++ es.map (·.1)) = true
  | [], gis, i, σ, acc, hl, hi, h, hev => by
    obtain rfl : [] = gis := by simpa [cgis] using h
    refine ⟨[], ?_, hev.2, fun a ha => ?_⟩
    · show i = ops.size
      have := congrArg List.length hl
      simp at this
      omega
    · subst ha
      simpa using hev.1
  | o :: l, gis, i, σ, acc, hl, hi, h, hev => by
    simp only [cgis, Option.bind_eq_some_iff, Option.some.injEq] at h
    obtain ⟨gi, hgi, m, hm, rfl⟩ := h
    have hlen := congrArg List.length hl
    simp at hlen
    have hoi : ops[i]? = some o := by
      have : (ops.toList.drop i)[0]? = some o := by rw [hl]; rfl
      simpa using this
    have hnext : ops.toList.drop (i + 1) = l := by
      rw [← List.tail_drop, hl]
      rfl
    obtain ⟨e, upd, hst, hev⟩ := hev
    obtain ⟨es, hch, hN, hok⟩ := gis_ok l m (i + 1) _ _ hnext (by omega) hm hev
    refine ⟨(e, upd) :: es, ⟨hst G xo ops i o hoi hgi, hch⟩, hN, fun a ha => ?_⟩
    have := hok (e :: a) (by rw [ha]; rfl)
    simpa using this

end
end Go.Proofs.Ytimpofjjndbofaa
