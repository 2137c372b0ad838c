/-
  Instructions on plain data, the first part: copies, numbers, tests. What each says of the program's own operation. No condition.
-/
import Derived.Test.YtimpofjjndbofaaVTyp
namespace Go.Proofs.Ytimpofjjndbofaa
open Go.RowKit

/-- An operation, wherever the slots that it reads hold what they hold in σ, writes what 'upd' says. -/
structure OpOK (P : Program) (G : Ctx) (o : Oper) (e : Ent) (σ : Env) (upd : Upd) : Prop where
  wr : ∀ p, p ∈ upd → p.1 ∈ e.wr
  run : ∀ (τ : Env) (a : Act) (w : World) (K : Act → World → Prop) (Q : Exit → Act → World → Prop), (∀ t, t ∈ e.rd → τ t = σ t) →
    Rel G τ a w → (∀ a' w', Rel G (Env.put upd τ) a' w' → K a' w') → o.wp P a w K Q

theorem OpOK.of_run {P : Program} {G : Ctx} {o : Oper} {e : Ent} {σ : Env} {upd : Upd} (wr : ∀ p, p ∈ upd → p.1 ∈ e.wr)
    (h : ∀ (τ : Env) (a : Act) (w : World) (F : Cells) (m : Names), (∀ t, t ∈ e.rd → τ t = σ t) → RelF G τ a.tmps w F m →
      ∃ n v w' F' m', (execOp a.eval o).run P w = .ok n w' ∧ (n = .value v ∨ (n = .skip ∧ v = undef)) ∧ RelF G (Env.put upd τ) (a.put o.dst v).tmps w' F' m') : OpOK P G o e σ upd := by
  refine ⟨wr, fun τ a w K Q hag hR hK => ?_⟩
  obtain ⟨hd, F, m, hR⟩ := hR
  obtain ⟨n, v, w', F', m', hrun, hn, hR'⟩ := h τ a w F m hag hR
  unfold Oper.wp
  rw [hrun]
  have hd' : (a.put o.dst v).defers = [] := by
    unfold Act.put
    cases o.dst <;> exact hd
  rcases hn with rfl | ⟨rfl, rfl⟩
  · exact hK _ _ ⟨hd', F', m', hR'⟩
  · exact hK _ _ ⟨hd', F', m', hR'⟩

theorem constD_fz (w : World) (F : Cells) (m : Names) (x : Value) : Fz w F m (constD x) x := by
  unfold constD
  split
  · exact .nul m none
  · rename_i f a b
    split
    · rename_i h
      rw [Bool.and_eq_true, Array.isEmpty_iff, Array.isEmpty_iff] at h
      obtain ⟨rfl, rfl⟩ := h
      exact .fn m _ [] [] rfl (fun i d u h => by cases h)
    · exact .v m _
  · exact .v m _
theorem constD_pur (x : Value) : (constD x).pur = true := by
  unfold constD
  split
  · rfl
  · split <;> rfl
  · rfl

theorem val_agree {σ τ : Env} {X : Opd} (h : ∀ t, t ∈ X.rd → τ t = σ t) : X.val τ = X.val σ := by
  cases X with
  | t n => exact h n (List.mem_singleton.2 rfl)
  | k d => rfl

section
variable {P : Program} {G : Ctx} {o : Oper} {σ τ : Env} {a : Act} {w : World} {F : Cells} {m : Names}

theorem opd_tmp {x : Operand} {t : Nat} (h : opd x = some (.t t)) : x = .tmp t ∧ t < nb := by
  cases x with
  | tmp u =>
    have h' : (if u < nb then some (Opd.t u) else none) = some (Opd.t t) := h
    split at h'
    · obtain rfl : u = t := by simpa using h'
      exact ⟨rfl, ‹_›⟩
    · cases h'
  | const y => simp [opd] at h
  | global g => simp [opd] at h
  | func f => simp [opd] at h

theorem opd_fz (h : RelF G τ a.tmps w F m) {x : Operand} {X : Opd} (hx : opd x = some X) (hag : ∀ t, t ∈ X.rd → τ t = σ t) : Fz w F m (X.val σ) (a.eval x) := by
  rw [← val_agree hag]
  cases x with
  | tmp t =>
    have hx' : (if t < nb then some (Opd.t t) else none) = some X := hx
    split at hx'
    · obtain rfl : Opd.t t = X := by simpa using hx'
      exact h.slots t ‹_›
    · cases hx'
  | const x =>
    obtain rfl : Opd.k (constD x) = X := by simpa [opd] using hx
    exact constD_fz w F m x
  | global g => simp [opd] at hx
  | func f =>
    obtain rfl : Opd.k (.fn f []) = X := by simpa [opd] using hx
    exact .fn m _ [] [] rfl (fun i d u h => by cases h)

theorem Fz.v_eq {x y : Value} (h : Fz w F m (.v x) y) : y = x := by cases h; rfl

/-- An operand that stands for a plain value is that value. -/
theorem opd_v (h : RelF G τ a.tmps w F m) {x : Operand} {X : Opd} (hx : opd x = some X) (hag : ∀ t, t ∈ X.rd → τ t = σ t) {y : Value} (hv : X.val σ = .v y) : a.eval x = y := by
  have h1 := opd_fz h hx hag
  rw [hv] at h1
  exact h1.v_eq

/-- An operation that answers a value, and touches no memory. -/
theorem OpOK.pure {d : Nat} {δ : D} {rd : List Nat} (hdst : o.dst = some d) (hd : d < G.n)
    (h : ∀ (τ : Env) (a : Act) (w : World) (F : Cells) (m : Names), (∀ t, t ∈ rd → τ t = σ t) → RelF G τ a.tmps w F m → ∃ v, (execOp a.eval o).run P w = .ok (.value v) w ∧ Fz w F m δ v) :
    OpOK P G o ⟨rd, [d]⟩ σ [(d, δ)] := by
  refine .of_run (fun p hp => ?_) (fun τ a w F m hag hR => ?_)
  · obtain rfl := List.mem_singleton.1 hp; exact List.mem_singleton.2 rfl
  · obtain ⟨v, hrun, hfz⟩ := h τ a w F m hag hR
    refine ⟨_, v, w, F, m, hrun, .inl rfl, ?_⟩
    rw [hdst]
    exact hR.slot hd hfz

theorem in_mov {d : Nat} {x : Operand} {X : Opd} (ho : o.op = .move x ∨ o.op = .assign x) (hx : opd x = some X) (hdst : o.dst = some d) (hd : d < G.n) : OpOK P G o (In.ent σ (.mov d X)) σ (In.upd σ (.mov d X)) := by
  refine .pure hdst hd (fun τ a w F m hag hR => ⟨a.eval x, ?_, opd_fz hR hx hag⟩)
  rcases ho with ho | ho <;> simp [execOp, ho]

theorem in_pick {d : Nat} {c x y : Operand} {C X Y : Opd} (ho : o.op = .pick c x y) (hc : opd c = some C) (hx : opd x = some X) (hy : opd y = some Y) (hdst : o.dst = some d) (hd : d < G.n) (h : In.ok σ (.pick d C X Y)) :
    OpOK P G o (In.ent σ (.pick d C X Y)) σ (In.upd σ (.pick d C X Y)) := by
  simp only [In.ok] at h
  simp only [In.upd]
  split at h
  · rename_i q hq
    refine .pure hdst hd (fun τ a w F m hag hR => ⟨if q then a.eval x else a.eval y, ?_, ?_⟩)
    · have := opd_v hR hc (fun t ht => hag t (List.mem_append_left _ (List.mem_append_left _ ht))) hq
      simp [execOp, ho, this, asBool]
    · cases q
      · exact opd_fz hR hy (fun t ht => hag t (List.mem_append_right _ ht))
      · exact opd_fz hR hx (fun t ht => hag t (List.mem_append_left _ (List.mem_append_right _ ht)))
  · exact h.elim

theorem binV_run (op : BinOp) (k k' : IntKind) (p q : Int) (h : binVok op k k' q) (t : TypeId) (w : World) : (binOp op t (.int k p) (.int k' q)).run P w = .ok (binV op k p q) w := by
  cases op <;> simp only [binVok] at h
  case shl => simp [binOp, Op.shift, Int.not_lt.2 h, binV]
  case shr => simp [binOp, Op.shift, Int.not_lt.2 h, binV]
  case quo => obtain ⟨rfl, h0⟩ := h; simp [binOp, Op.intDiv, h0, binV]
  case rem => obtain ⟨rfl, h0⟩ := h; simp [binOp, Op.intDiv, h0, binV]
  all_goals (subst h; simp [binOp, Op.intArith, Op.intBits, Op.intCmp, intBit, binV])

theorem binD_run (op : BinOp) (x y : D) (h : binOk op x y) : ∃ p q r, x = .v p ∧ y = .v q ∧ binD op x y = .v r ∧ ∀ (t : TypeId) (X Y : Operand) (w : World), (do eqGuard op t X Y p q; binOp op t p q).run P w = .ok r w := by
  cases x with
  | v p =>
    cases y with
    | v q =>
      cases p with
      | int k p =>
        cases q with
        | int k' q =>
          refine ⟨_, _, _, rfl, rfl, rfl, fun t X Y w => ?_⟩
          have hg : (eqGuard op t X Y (.int k p) (.int k' q)).run P w = .ok () w := by unfold eqGuard; split <;> simp
          rw [Sem.run_bind, hg]
          exact binV_run op k k' p q h t w
        | _ => exact False.elim h
      | string p =>
        cases q with
        | string q =>
          have hg : ∀ (t : TypeId) (X Y : Operand) (w : World), (eqGuard op t X Y (.string p) (.string q)).run P w = .ok () w := by intro t X Y w; unfold eqGuard; split <;> simp
          have h' : binSok op p q := h
          cases op <;> simp only [binSok] at h'
          case add =>
            refine ⟨_, _, _, rfl, rfl, rfl, fun t X Y w => ?_⟩
            rw [Sem.run_bind, hg]
            have h2 : (p.size : Int) + (q.size : Int) ≤ 9223372036854775807 := by omega
            simp [binOp, Op.stringOp, h2, binS]
          case eql => exact ⟨_, _, _, rfl, rfl, rfl, fun t X Y w => by rw [Sem.run_bind, hg]; simp [binOp, Op.stringOp, binS]⟩
          case neq => exact ⟨_, _, _, rfl, rfl, rfl, fun t X Y w => by rw [Sem.run_bind, hg]; simp [binOp, Op.stringOp, binS]⟩
        | _ => exact False.elim h
      | _ => exact False.elim h
    | _ => cases p <;> exact False.elim h
  | _ => exact False.elim h

/-- Two operands that stand for plain values. -/
theorem in_two {d : Nat} {x y : Operand} {X Y : Opd} {p q r : Value} (hx : opd x = some X) (hy : opd y = some Y) (hdst : o.dst = some d) (hd : d < G.n) (hp : X.val σ = .v p) (hq : Y.val σ = .v q)
    (hrun : ∀ (a : Act) (w : World), a.eval x = p → a.eval y = q → (execOp a.eval o).run P w = .ok (.value r) w) : OpOK P G o ⟨X.rd ++ Y.rd, [d]⟩ σ [(d, .v r)] :=
  .pure hdst hd (fun _ a w _ m hag hR => ⟨r, hrun a w (opd_v hR hx (fun t ht => hag t (List.mem_append_left _ ht)) hp) (opd_v hR hy (fun t ht => hag t (List.mem_append_right _ ht)) hq), .v m r⟩)

theorem in_bin {d : Nat} {op : BinOp} {t t' : TypeId} {x y : Operand} {X Y : Opd} (ho : o.op = .binOp op t x y t') (hx : opd x = some X) (hy : opd y = some Y) (hdst : o.dst = some d) (hd : d < G.n)
    (h : In.ok σ (.bin d op X Y)) : OpOK P G o (In.ent σ (.bin d op X Y)) σ (In.upd σ (.bin d op X Y)) := by
  obtain ⟨p, q, r, hp, hq, hr, hrun⟩ := binD_run (P := P) op _ _ h
  simp only [In.upd]
  rw [hr]
  refine in_two hx hy hdst hd hp hq (fun a w e1 e2 => ?_)
  simp only [execOp, ho, e1, e2]
  rw [Sem.run_bind, hrun t x y w]
  rfl

theorem in_beq {d : Nat} {neg : Bool} {t t' : TypeId} {x y : Operand} {X Y : Opd} (ho : o.op = .binOp (if neg then .neq else .eql) t x y t') (ht : P.underlying t = some .bool) (hx : opd x = some X) (hy : opd y = some Y) (hdst : o.dst = some d) (hd : d < G.n)
    (h : In.ok σ (.beq d neg X Y)) : OpOK P G o (In.ent σ (.beq d neg X Y)) σ (In.upd σ (.beq d neg X Y)) := by
  simp only [In.ok] at h
  simp only [In.upd]
  split at h
  · rename_i p q hp hq
    refine in_two hx hy hdst hd hp hq (fun a w e1 e2 => ?_)
    have he := run_equalIn_bool' (P := P) w 9999 t p q ht
    have hg : ∀ op : BinOp, (eqGuard op t x y (.bool p) (.bool q)).run P w = .ok () w := by intro op; unfold eqGuard; split <;> simp
    cases neg <;> simp [execOp, ho, e1, e2, hg, binOp, Op.equal, Op.maxDepth, he]
  · exact h.elim

theorem in_mm {d : Nat} {mx : Bool} {x y : Operand} {X Y : Opd} {ts : Array TypeId} (ho : o.op = .call { callee := .builtin (if mx then .max else .min), args := #[x, y], argTypes := ts }) (hx : opd x = some X) (hy : opd y = some Y) (hdst : o.dst = some d) (hd : d < G.n)
    (h : In.ok σ (.mm d mx X Y)) : OpOK P G o (In.ent σ (.mm d mx X Y)) σ (In.upd σ (.mm d mx X Y)) := by
  simp only [In.ok] at h
  simp only [In.upd]
  split at h
  · rename_i k p k' q hp hq
    subst h
    refine in_two hx hy hdst hd hp hq (fun a w e1 e2 => ?_)
    have e3 : max p q = if q > p then q else p := by split <;> omega
    have e4 : min p q = if q < p then q else p := by split <;> omega
    cases mx <;> simp [execOp, ho, e1, e2, resolve, invoke, builtin, Builtin.min_, Builtin.min2, Builtin.max_, Builtin.max2, mmV, e3, e4]
  · exact h.elim

theorem in_un {d : Nat} {op : UnOp} {t : TypeId} {x : Operand} {X : Opd} (ho : o.op = .unOp op t x) (hx : opd x = some X) (hdst : o.dst = some d) (hd : d < G.n)
    (h : In.ok σ (.un d op X)) : OpOK P G o (In.ent σ (.un d op X)) σ (In.upd σ (.un d op X)) := by
  simp only [In.ok] at h
  simp only [In.upd]
  split at h
  · rename_i b hb
    exact .pure hdst hd (fun τ a w F m hag hR => ⟨_, by simp [execOp, ho, opd_v hR hx hag hb, Op.unary], .v m _⟩)
  · rename_i k n hn
    exact .pure hdst hd (fun τ a w F m hag hR => ⟨_, by simp [execOp, ho, opd_v hR hx hag hn, Op.unary, Op.intArith], .v m _⟩)
  · exact h.elim

theorem int_val {X : Opd} (h : intOk σ X) : ∃ k, X.val σ = .v (.int k (intD σ X)) := by
  unfold intOk D.int? at h
  unfold intD D.int?
  split at h
  · rename_i k n hn; exact ⟨k, by rw [hn]; rfl⟩
  · cases h

theorem in_cvt {d : Nat} {k : IntKind} {t u : TypeId} {td : TypeDesc} {x : Operand} {X : Opd} (ho : o.op = .convert t u x) (ht : P.underlying t = some td) (hu : P.underlying u = some (.int k)) (hx : opd x = some X) (hdst : o.dst = some d) (hd : d < G.n)
    (h : In.ok σ (.cvt d k X)) : OpOK P G o (In.ent σ (.cvt d k X)) σ (In.upd σ (.cvt d k X)) := by
  obtain ⟨k', hn⟩ := int_val h
  refine .pure hdst hd (fun τ a w F m hag hR => ⟨_, ?_, .v m _⟩)
  simp [execOp, ho, opd_v hR hx hag hn, convert, run_underlying ht, run_underlying hu, Conv.intToInt]

end
end Go.Proofs.Ytimpofjjndbofaa
