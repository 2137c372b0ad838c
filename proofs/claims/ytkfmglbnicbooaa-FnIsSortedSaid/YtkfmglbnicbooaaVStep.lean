/-
  How the program's code is read as code on plain data. Definitions, and that each operation read is what it says. Rows of one's own that stand still from now on; names told anew. How both keep what is known of a call under way. Regions on plain data: instructions with their guards, one after the other; a region of the program, in whatever order, does what they say. Code on plain data: what a piece of code asks of the slots and leaves in them; a piece of the program's code does what its reading says; a function does what its code says. Code on plain data, step by step. No condition.
-/
import Derived.Test.YtkfmglbnicbooaaVSnd
import Derived.LoopN
import Derived.Scope
namespace Go.Proofs.Ytkfmglbnicbooaa
section
open Go.RowKit

def oif {α : Type} (c : Bool) (x : Option α) : Option α := if c then x else none
theorem oif_some {α : Type} {c : Bool} {x : Option α} {y : α} : oif c x = some y ↔ c = true ∧ x = some y := by
  unfold oif
  cases c <;> simp

def tmpOf : Operand → Option Nat
  | .tmp t => if t < nb then some t else none
  | _ => none
theorem tmpOf_some {x : Operand} {t : Nat} (h : tmpOf x = some t) : x = .tmp t ∧ t < nb := by
  cases x with
  | tmp u =>
    have h' : (if u < nb then some u else none) = some t := h
    split at h'
    · obtain rfl : u = t := by simpa using h'
      exact ⟨rfl, ‹_›⟩
    · cases h'
  | _ => cases h

def sliceElem (P : Program) (t : TypeId) : Option TypeId :=
  match P.underlying t with
  | some (.slice e) => some e
  | _ => none
theorem sliceElem_some {P : Program} {t e : TypeId} (h : sliceElem P t = some e) : P.underlying t = some (.slice e) := by
  unfold sliceElem at h
  split at h
  · rename_i e' he
    obtain rfl : e' = e := by simpa using h
    exact he
  · cases h
def isString (P : Program) (t : TypeId) : Bool :=
  match P.underlying t with
  | some .string => true
  | _ => false
theorem isString_some {P : Program} {t : TypeId} (h : isString P t = true) : P.underlying t = some .string := by
  unfold isString at h
  split at h
  · assumption
  · cases h
def isBool (P : Program) (t : TypeId) : Bool :=
  match P.underlying t with
  | some .bool => true
  | _ => false
theorem isBool_some {P : Program} {t : TypeId} (h : isBool P t = true) : P.underlying t = some .bool := by
  unfold isBool at h
  split at h
  · assumption
  · cases h
def isStruct (P : Program) (t : TypeId) : Bool :=
  match P.underlying t with
  | some (.struct _) => true
  | _ => false
def intKind (P : Program) (t : TypeId) : Option IntKind :=
  match P.underlying t with
  | some (.int k) => some k
  | _ => none
theorem intKind_some {P : Program} {t : TypeId} {k : IntKind} (h : intKind P t = some k) : P.underlying t = some (.int k) := by
  unfold intKind at h
  split at h
  · rename_i k' hk
    obtain rfl : k' = k := by simpa using h
    exact hk
  · cases h
def arrayOf (P : Program) (t : TypeId) : Option (Nat × TypeId) :=
  match P.underlying t with
  | some (.array n e) => some (n, e)
  | _ => none
theorem arrayOf_some {P : Program} {t n e : Nat} (h : arrayOf P t = some (n, e)) : P.underlying t = some (.array n e) := by
  unfold arrayOf at h
  split at h
  · rename_i n' e' hn
    obtain ⟨rfl, rfl⟩ : n' = n ∧ e' = e := by simpa using h
    exact hn
  · cases h
def concrete' (P : Program) (t : TypeId) : Bool :=
  match P.underlying t with
  | some (.interface _) => false
  | some _ => true
  | none => false

/-- The fields that a literal names: where each lies, how many cells it takes. -/
def partSize (P : Program) (T : TypeId) (i : Nat) : Option (Option Nat) :=
  match P.underlying T with
  | some (.struct fields) => match fields[i]? with
    | some f => szOf P f.type
    | none => none
  | some (.array _ e) => szOf P e
  | _ => none
def cparts (P : Program) (T : TypeId) (place : Nat → Option (Nat × Nat)) : List (Nat × Operand) → Option (List (Nat × Option Nat × Opd))
  | [] => some []
  | (i, x) :: l => (place i).bind fun p => (partSize P T i).bind fun n => (opd x).bind fun X => oif (p.2 == n.getD 1) ((cparts P T place l).bind fun m => some ((p.1, n, X) :: m))
theorem cparts_ok {P : Program} {T : TypeId} {place : Nat → Option (Nat × Nat)} : ∀ {l : List (Nat × Operand)} {m : List (Nat × Option Nat × Opd)}, cparts P T place l = some m → Parts place l m
  | [], m, h => by
    obtain rfl : [] = m := by simpa [cparts] using h
    exact .nil
  | (i, x) :: l, m, h => by
    simp only [cparts, Option.bind_eq_some_iff, oif_some, Option.some.injEq, beq_iff_eq] at h
    obtain ⟨p, hp, n, _, X, hX, he, m', hm, rfl⟩ := h
    exact .cons i p.1 n x X l m' (by rw [hp, ← he]) hX (cparts_ok hm)
def celems : List (Nat × Operand) → Option (List (Nat × Opd))
  | [] => some []
  | (i, x) :: l => (opd x).bind fun X => (celems l).bind fun m => some ((i, X) :: m)
theorem celems_ok : ∀ {l : List (Nat × Operand)} {m : List (Nat × Opd)}, celems l = some m → Elems l m
  | [], m, h => by
    obtain rfl : [] = m := by simpa [celems] using h
    exact .nil
  | (i, x) :: l, m, h => by
    simp only [celems, Option.bind_eq_some_iff, Option.some.injEq] at h
    obtain ⟨X, hX, m', hm, rfl⟩ := h
    exact .cons i x X l m' hX (celems_ok hm)
def cbound : Option Operand → Option (Option Opd)
  | none => some none
  | some x => (opd x).bind fun X => some (some X)
theorem cbound_ok {x : Option Operand} {X : Option Opd} (h : cbound x = some X) : Bound x X := by
  cases x with
  | none =>
    obtain rfl : none = X := by simpa [cbound] using h
    exact .none
  | some x =>
    simp only [cbound, Option.bind_eq_some_iff, Option.some.injEq] at h
    obtain ⟨Y, hY, rfl⟩ := h
    exact .some x Y hY
def sameOpd : Operand → Operand → Bool
  | .tmp a, .tmp b => a == b
  | .const (.int j a), .const (.int k b) => j == k && a == b
  | _, _ => false
theorem sameOpd_eq {x y : Operand} (h : sameOpd x y = true) : x = y := by
  cases x with
  | tmp a => cases y <;> simp_all [sameOpd]
  | const a => cases a <;> cases y <;> first | (simp [sameOpd] at h; done) | skip
               rename_i b
               cases b <;> simp_all [sameOpd]
  | _ => cases y <;> simp [sameOpd] at h

def isEql : BinOp → Bool
  | .eql => true
  | _ => false
theorem isEql_eq {op : BinOp} (h : isEql op = true) : op = .eql := by cases op <;> first | rfl | cases h
def isNeq : BinOp → Bool
  | .neq => true
  | _ => false
theorem isNeq_eq {op : BinOp} (h : isNeq op = true) : op = .neq := by cases op <;> first | rfl | cases h

def isNilC : Operand → Bool
  | .const (.slice none 0 0) => true
  | _ => false
theorem isNilC_eq {y : Operand} (h : isNilC y = true) : y = .const (.slice none 0 0) := by
  unfold isNilC at h
  split at h
  · rfl
  · cases h
def isMm : Builtin → Option Bool
  | .max => some true
  | .min => some false
  | _ => none
theorem isMm_eq {b : Builtin} {mx : Bool} (h : isMm b = some mx) : b = if mx then .max else .min := by
  cases b <;> first | (cases h; rfl) | (cases h; done)
/-- The name of what the operation with slot d makes. -/
abbrev nm (d : Nat) : Nat := 2000000 + d

/-- An operation with a slot to write; xo: the literals that are rows of one's own. -/
def copD (P : Program) (xo : List Nat) (o : Oper) (d : Nat) : Option In :=
  match o.op with
  | .move x => (opd x).bind fun X => some (.mov d X)
  | .assign x => (opd x).bind fun X => some (.mov d X)
  | .pick c x y => (opd c).bind fun C => (opd x).bind fun X => (opd y).bind fun Y => some (.pick d C X Y)
  | .binOp op t x y _ => if isNilC y && (sliceElem P t).isSome && (isEql op || isNeq op) then (opd x).bind fun X => some (.isn d (isNeq op) X) else (opd x).bind fun X => (opd y).bind fun Y =>
    if isEql op && isBool P t then some (.beq d false X Y) else if isNeq op && isBool P t then some (.beq d true X Y)
    else if isEql op && isStruct P t then (flatType P t).bind fun ks => some (.eqs d false ks X Y)
    else if isNeq op && isStruct P t then (flatType P t).bind fun ks => some (.eqs d true ks X Y)
    else some (.bin d op X Y)
  | .unOp op _ x => (opd x).bind fun X => some (.un d op X)
  | .convert t u x => (opd x).bind fun X => (intKind P u).bind fun k => oif (P.underlying t).isSome (some (.cvt d k X))
  | .alloc T => (zsOf P T).bind fun zs => some (.alloc d (nm d) zs)
  | .box T x => (opd x).bind fun X => (szOf P T).bind fun n => some (.box d (nm d) X n)
  | .build T ps => (zsOf P T).bind fun zs => (placeOf P T).bind fun place => (cparts P T place ps.toList).bind fun qs => some (.build d zs qs)
  | .buildSlice T m ps => (sliceElem P T).bind fun e => (szOf P e).bind fun n => (zsOf P e).bind fun zs => (celems ps.toList).bind fun qs =>
    oif (decide (0 < n.getD 1) && (zs.length == n.getD 1) && decide (m * n.getD 1 ≤ 2 ^ 24)) (if m == 0 && qs.isEmpty then some (.mov d (.k .nul)) else
      if xo.contains d then some (.bslx d (nm d) (n.getD 1) n (List.replicate m (zeroElem n zs)) qs) else some (.bsl d (n.getD 1) n (List.replicate m (zeroElem n zs)) qs))
  | .load T x => (tmpOf x).bind fun s => (szOf P T).bind fun n => some (.lod d s n)
  | .fieldAddr S x f => (tmpOf x).bind fun s => (fldOf P S f).bind fun q => some (.fad d s q.1)
  | .indexAddr T x i => (tmpOf x).bind fun s => (opd i).bind fun I => match arrayOf P T with
    | some (m, e) => (szOf P e).bind fun n => some (.iaa d s I m (n.getD 1))
    | none => (sliceElem P T).bind fun e => (szOf P e).bind fun n => some (.iad d s I (n.getD 1))
  | .field T x f => (opd x).bind fun X => (fldOf P T f).bind fun q => some (.fld d X q.1 q.2)
  | .extract x i => (tmpOf x).bind fun s => some (.ext d s i)
  | .index T x i => (opd x).bind fun X => (opd i).bind fun I => match arrayOf P T with
    | some (m, e) => (szOf P e).bind fun n => some (.ida d X I m (n.getD 1) n)
    | none => oif (isString P T) (some (.idx d X I))
  | .slice T x lo hi none => (opd x).bind fun X => (cbound lo).bind fun L => (cbound hi).bind fun H =>
    if isString P T then some (.slcs d X L H) else (sliceElem P T).bind fun e => (szOf P e).bind fun n => some (.slc d X L H (n.getD 1))
  | .makeSlice T x y => (sliceElem P T).bind fun e => (szOf P e).bind fun n => (zsOf P e).bind fun zs => (P.info? e).bind fun i => (opd x).bind fun X =>
    oif (sameOpd x y && decide (0 < n.getD 1) && (zs.length == n.getD 1)) (some (.mks d (nm d) X (n.getD 1) i.bytes (zeroElem n zs)))
  | .makeInterface T x => (opd x).bind fun X => oif (concrete' P T) (some (.ifc d T X))
  | .makeFunc (.method name) first xs => match first.toList with
    | [x] => (opd x).bind fun X => oif xs.isEmpty (some (.mkb d name X))
    | _ => none
  | .makeFunc (.func f) first xs => (xs.toList.mapM opd).bind fun Xs => oif first.isEmpty (some (.mkf d f Xs))
  | .nilCheck x => (tmpOf x).bind fun s => some (.nilc d s)
  | .call { callee := .builtin .len, args, argTypes } => match args.toList, argTypes.toList with
    | [x], [T] => (opd x).bind fun X => if isString P T then some (.lens d X) else (sliceElem P T).bind fun _ => some (.len d X)
    | _, _ => none
  | .call { callee := .builtin .append, args, argTypes } => match args.toList, argTypes.toList with
    | [x, y], [T, U] => (opd x).bind fun X => (opd y).bind fun Y => (sliceElem P T).bind fun e => (szOf P e).bind fun n => (zsOf P e).bind fun zs => (P.info? e).bind fun i =>
      oif (decide (0 < n.getD 1) && (zs.length == n.getD 1) && (T == U)) (some (.app d (nm d) X Y (n.getD 1) i.bytes))
    | _, _ => none
  | .call { callee := .builtin b, args, argTypes := _ } => match args.toList with
    | [x, y] => (isMm b).bind fun mx => (opd x).bind fun X => (opd y).bind fun Y => some (.mm d mx X Y)
    | _ => none
  | _ => none

/-- A call. -/
def ccall (P : Program) (o : Oper) (d : Nat) : Option In :=
  match o.op with
  | .call { callee := .value (.func f), args, argTypes := _ } => (args.toList.mapM opd).bind fun xs => oif (enters P f) (some (.call d f xs))
  | .call { callee := .value x, args, argTypes := _ } => (opd x).bind fun X => (args.toList.mapM opd).bind fun xs => some (.cal d X xs)
  | .call { callee := .invoke x name, args, argTypes := _ } => (opd x).bind fun X => (args.toList.mapM opd).bind fun xs => some (.inv d X name xs)
  | _ => none

/-- An operation, with or without a slot to write. -/
def cop (P : Program) (N : Nat) (xo : List Nat) (o : Oper) : Option In :=
  match o.dst with
  | some d => oif (decide (d < N)) (copD P xo o d)
  | none => match o.op with
    | .store T s x => (tmpOf s).bind fun s => (szOf P T).bind fun n => (opd x).bind fun X => oif (decide (0 < n.getD 1)) (some (.sto s X n))
    | _ => none

section
variable {P : Program} {G : Ctx} {σ : Env} {xo : List Nat} {o : Oper} {d : Nat} {ins : In}

/-- An empty literal. -/
theorem in_bsl0 {T e k : Nat} {n : Option Nat} {zs : List D} {ps : Array (Nat × Operand)} {qs : List (Nat × Opd)} (ho : o.op = .buildSlice T k ps) (hT : P.underlying T = some (.slice e)) (hsz : szOf P e = some n) (h0 : 0 < n.getD 1)
    (hz : zsOf P e = some zs) (hn : zs.length = n.getD 1) (hq : Elems ps.toList qs) (hk : k = 0) (hqs : qs = []) (hdst : o.dst = some d) (hd : d < G.n) : OpOK P G o (In.ent σ (.mov d (.k .nul))) σ (In.upd σ (.mov d (.k .nul))) := by
  subst hk hqs
  refine .of_run (fun p hp => ?_) (fun τ a w F m hag hR => ?_)
  · obtain rfl := List.mem_singleton.1 hp; exact List.mem_singleton.2 rfl
  · obtain ⟨ys, hrun, _⟩ := run_bsl (σ := σ) ho hT hsz h0 hz hn (by omega) hq hR (fun t ht => by cases ht) trivial
    have hR1 : RelF G τ a.tmps (w.alloc (.cells ys.toArray e)) F m :=
      have c := Chg.alloc0 hR.wf (.cells ys.toArray e)
      ⟨hR.size, hR.nle, fun t ht => (hR.slots t ht).still c, fun g hg => (hR.blks g hg).stable c (fun _ _ h => h) (fun e => by have := hR.blks g hg; rw [e] at this; exact this) (fun _ _ _ => id), hR.inj, wf_alloc hR.wf _, hR.chg.trans c (fun _ h => h.elim), hR.own, hR.par⟩
    refine ⟨_, _, _, F, m, hrun, .inl rfl, ?_⟩
    rw [hdst]
    exact hR1.slot hd (.nul m _)

/-- No method of that name of the type asks its receiver whether it is nil. -/
def NilFree (P : Program) (t : TypeId) (name : String) : Prop := ∀ (v : Value) (w : World), (nilAhead (P.types.size + Made.depth) t v name).run P w = .ok (some false) w
/-- The same for one receiver. -/
def NilAt (P : Program) (t : TypeId) (name : String) (e : D) : Prop := ∀ (w : World) (F : Cells) (m : Names) (v : Value), Fz w F m e v → (nilAhead (P.types.size + Made.depth) t v name).run P w = .ok (some false) w
theorem NilFree.at {P : Program} {t : TypeId} {name : String} (h : NilFree P t name) (e : D) : NilAt P t name e := fun w _ _ v _ => h v w
theorem nilAt_1 {P : Program} {t f q : Nat} {n : Option Nat} {name : String} (h : methOf1 P t name = some (f, q, n)) {cs : List D} (hok : D.getCok cs q n) : NilAt P t name (.agg cs) := by
  intro w F m v hv
  unfold methOf1 at h
  split at h
  · rename_i i hi
    split at h
    · rename_i mm hm
      split at h
      · rename_i s f' hp hf
        split at h
        · rename_i fields hd hu
          split at h
          · rename_i fd hfd
            split at h
            · rename_i gs n' hu2 hsz
              split at h
              · obtain ⟨rfl, rfl, rfl⟩ : f' = f ∧ fd.offset = q ∧ n' = n := by
                  have := Option.some.inj h
                  simp only [Prod.mk.injEq] at this
                  exact this
                obtain ⟨us, rfl, hus⟩ := hv.aggOf
                obtain ⟨v', hfz, h1, h2⟩ := getC_val hus hok
                obtain ⟨u', i', _, _, _, hagg⟩ := szOf_some hsz
                have hfo : (followBlind mm.path.toList t (some (.agg us.toArray))).run P w = .ok (.ok (fd.type, some v')) w := by
                  cases n' with
                  | none =>
                    have h1 := h1 rfl
                    simp [hp, followBlind, run_underlying hu, hfd, hd, part, hagg, h1]
                  | some k =>
                    obtain ⟨rfl, hle⟩ := h2 k rfl
                    have hs := run_sizeOf' hsz w
                    simp [hp, followBlind, run_underlying hu, hfd, hd, part, hagg, hs]
                rw [show P.types.size + Made.depth = (P.types.size + 99) + 1 from rfl]
                generalize P.types.size + 99 = k
                simp only [nilAhead, typeInfo, Sem.run_bind, run_program, Result.andThen_ok, hi, Sem.run_pure, hm, hfo, hf, run_underlying hu2]
              · cases h
            · cases h
          · cases h
        · cases h
      · cases h
    · cases h
  · cases h
/-- What an instruction asks; a bound method may be asked whether it is nil. -/
def In.okP (P : Program) (σ : Env) : In → Prop
  | .nilc d s => In.ok σ (.nilc d s) ∨ ∃ t name e, σ s = .bnd t name e ∧ NilAt P t name e
  | ins => In.ok σ ins
theorem In.ok_okP {P : Program} {σ : Env} {ins : In} (h : ins.ok σ) : ins.okP P σ := by
  cases ins <;> first | exact h | exact Or.inl h
theorem in_nilb {d s : Nat} (ho : o.op = .nilCheck (.tmp s)) (hs : s < nb) (hdst : o.dst = some d) (hd : d < G.n) {t : TypeId} {name : String} {e : D} (hv : σ s = .bnd t name e) (hn : NilAt P t name e) : OpOK P G o (In.ent σ (.nilc d s)) σ (In.upd σ (.nilc d s)) := by
  simp only [In.upd]
  refine .pure hdst hd (fun τ a w F m hag hR => ?_)
  have h1 := hR.slots s hs
  rw [hag s (List.mem_singleton.2 rfl)] at h1
  have hx : a.eval (.tmp s) = a.tmps.getD s undef := rfl
  refine ⟨a.tmps.getD s undef, ?_, h1⟩
  generalize hy : a.tmps.getD s undef = x at h1
  rw [hy] at hx
  rw [hv] at h1
  cases h1 with
  | bnd _ _ _ _ y h =>
    have := hn w F m y h
    simp [execOp, ho, hx, this]
theorem copD_ok (h : copD P xo o d = some ins) (hdst : o.dst = some d) (hd : d < G.n) (hok : ins.okP P σ) : OpOK P G o (ins.ent σ) σ (ins.upd σ) := by
  unfold copD at h
  split at h
  case h_1 x ho =>
    simp only [Option.bind_eq_some_iff, Option.some.injEq] at h
    obtain ⟨X, hX, rfl⟩ := h
    exact in_mov (.inl ho) hX hdst hd
  case h_2 x ho =>
    simp only [Option.bind_eq_some_iff, Option.some.injEq] at h
    obtain ⟨X, hX, rfl⟩ := h
    exact in_mov (.inr ho) hX hdst hd
  case h_3 c x y ho =>
    simp only [Option.bind_eq_some_iff, Option.some.injEq] at h
    obtain ⟨C, hC, X, hX, Y, hY, rfl⟩ := h
    exact in_pick ho hC hX hY hdst hd hok
  case h_4 op t x y t' ho =>
    split at h
    · rename_i hc
      simp only [Option.bind_eq_some_iff, Option.some.injEq] at h
      obtain ⟨X, hX, rfl⟩ := h
      simp only [Bool.and_eq_true, Bool.or_eq_true] at hc
      obtain ⟨⟨hc1, hc2⟩, hc3⟩ := hc
      obtain ⟨e, he⟩ := Option.isSome_iff_exists.1 hc2
      rw [isNilC_eq hc1] at ho
      rcases hc3 with hc3 | hc3
      · have e1 := isEql_eq hc3
        subst e1
        exact in_isn (neg := false) ho (sliceElem_some he) hX hdst hd hok
      · have e1 := isNeq_eq hc3
        subst e1
        exact in_isn (neg := true) ho (sliceElem_some he) hX hdst hd hok
    simp only [Option.bind_eq_some_iff] at h
    obtain ⟨X, hX, Y, hY, h⟩ := h
    split at h
    · rename_i hc
      obtain rfl := Option.some.inj h
      rw [Bool.and_eq_true] at hc
      rw [isEql_eq hc.1] at ho
      exact in_beq (neg := false) ho (isBool_some hc.2) hX hY hdst hd hok
    · split at h
      · rename_i hc
        obtain rfl := Option.some.inj h
        rw [Bool.and_eq_true] at hc
        rw [isNeq_eq hc.1] at ho
        exact in_beq (neg := true) ho (isBool_some hc.2) hX hY hdst hd hok
      · split at h
        · rename_i hc
          simp only [Option.bind_eq_some_iff, Option.some.injEq] at h
          obtain ⟨ks, hks, rfl⟩ := h
          rw [Bool.and_eq_true] at hc
          rw [isEql_eq hc.1] at ho
          exact in_eqs (neg := false) ho hks hX hY hdst hd hok
        · split at h
          · rename_i hc
            simp only [Option.bind_eq_some_iff, Option.some.injEq] at h
            obtain ⟨ks, hks, rfl⟩ := h
            rw [Bool.and_eq_true] at hc
            rw [isNeq_eq hc.1] at ho
            exact in_eqs (neg := true) ho hks hX hY hdst hd hok
          · obtain rfl := Option.some.inj h
            exact in_bin ho hX hY hdst hd hok
  case h_5 op t x ho =>
    simp only [Option.bind_eq_some_iff, Option.some.injEq] at h
    obtain ⟨X, hX, rfl⟩ := h
    exact in_un ho hX hdst hd hok
  case h_6 t u x ho =>
    simp only [Option.bind_eq_some_iff, oif_some, Option.some.injEq] at h
    obtain ⟨X, hX, k, hu, ht, rfl⟩ := h
    obtain ⟨td, ht⟩ := Option.isSome_iff_exists.1 ht
    exact in_cvt ho ht (intKind_some hu) hX hdst hd hok
  case h_7 T ho =>
    simp only [Option.bind_eq_some_iff, Option.some.injEq] at h
    obtain ⟨zs, hz, rfl⟩ := h
    exact in_alloc ho hz hdst hd hok
  case h_8 T x ho =>
    simp only [Option.bind_eq_some_iff, Option.some.injEq] at h
    obtain ⟨X, hX, n, _, rfl⟩ := h
    exact in_box ho hX hdst hd hok
  case h_9 T ps ho =>
    simp only [Option.bind_eq_some_iff, Option.some.injEq] at h
    obtain ⟨zs, hz, place, hp, qs, hq, rfl⟩ := h
    exact in_build ho hz hp (cparts_ok hq) hdst hd hok
  case h_10 T m ps ho =>
    simp only [Option.bind_eq_some_iff, oif_some, Bool.and_eq_true, decide_eq_true_eq, beq_iff_eq] at h
    obtain ⟨e, he, n, hn, zs, hz, qs, hq, ⟨⟨h0, h1⟩, h2⟩, h⟩ := h
    split at h
    · rename_i hc
      obtain rfl := Option.some.inj h
      exact in_bsl0 ho (sliceElem_some he) hn h0 hz h1 (celems_ok hq) hc.1 (List.isEmpty_iff.1 hc.2) hdst hd
    · split at h
      · obtain rfl := Option.some.inj h
        exact in_bslx ho (sliceElem_some he) hn h0 hz h1 h2 (celems_ok hq) hdst hd hok
      · obtain rfl := Option.some.inj h
        exact in_bsl ho (sliceElem_some he) hn h0 hz h1 h2 (celems_ok hq) hdst hd hok
  case h_11 T x ho =>
    simp only [Option.bind_eq_some_iff, Option.some.injEq] at h
    obtain ⟨s, hs, n, hn, rfl⟩ := h
    obtain ⟨rfl, hs'⟩ := tmpOf_some hs
    exact in_lod ho hs' hn hdst hd hok
  case h_12 S x f ho =>
    simp only [Option.bind_eq_some_iff, Option.some.injEq] at h
    obtain ⟨s, hs, ⟨q, n⟩, hq, rfl⟩ := h
    obtain ⟨rfl, hs'⟩ := tmpOf_some hs
    exact in_fad ho hs' hq hdst hd hok
  case h_13 T x i ho =>
    simp only [Option.bind_eq_some_iff] at h
    obtain ⟨s, hs, I, hI, h⟩ := h
    obtain ⟨rfl, hs'⟩ := tmpOf_some hs
    split at h
    · rename_i m e he
      simp only [Option.bind_eq_some_iff, Option.some.injEq] at h
      obtain ⟨n, hn, rfl⟩ := h
      exact in_iaa ho hs' (arrayOf_some he) hn hI hdst hd hok
    · simp only [Option.bind_eq_some_iff, Option.some.injEq] at h
      obtain ⟨e, he, n, hn, rfl⟩ := h
      exact in_iad ho hs' (sliceElem_some he) hn hI hdst hd hok
  case h_14 T x f ho =>
    simp only [Option.bind_eq_some_iff, Option.some.injEq] at h
    obtain ⟨X, hX, ⟨q, n⟩, hq, rfl⟩ := h
    exact in_fld ho hq hX hdst hd hok
  case h_15 x i ho =>
    simp only [Option.bind_eq_some_iff, Option.some.injEq] at h
    obtain ⟨s, hs, rfl⟩ := h
    obtain ⟨rfl, hs'⟩ := tmpOf_some hs
    exact in_ext ho hs' hdst hd hok
  case h_16 T x i ho =>
    simp only [Option.bind_eq_some_iff] at h
    obtain ⟨X, hX, I, hI, h⟩ := h
    split at h
    · rename_i m e he
      simp only [Option.bind_eq_some_iff, Option.some.injEq] at h
      obtain ⟨n, hn, rfl⟩ := h
      exact in_ida ho (arrayOf_some he) hn hX hI hdst hd hok
    · simp only [oif_some, Option.some.injEq] at h
      obtain ⟨hT, rfl⟩ := h
      exact in_idx ho (isString_some hT) hX hI hdst hd hok
  case h_17 T x lo hi ho =>
    simp only [Option.bind_eq_some_iff] at h
    obtain ⟨X, hX, L, hL, H, hH, h⟩ := h
    split at h
    · rename_i hT
      obtain rfl := Option.some.inj h
      exact in_slcs ho (isString_some hT) hX (cbound_ok hL) (cbound_ok hH) hdst hd hok
    · simp only [Option.bind_eq_some_iff, Option.some.injEq] at h
      obtain ⟨e, he, n, hn, rfl⟩ := h
      exact in_slc ho (sliceElem_some he) hn rfl hX (cbound_ok hL) (cbound_ok hH) hdst hd hok
  case h_18 T x y ho =>
    simp only [Option.bind_eq_some_iff, oif_some, Option.some.injEq, Bool.and_eq_true, decide_eq_true_eq, beq_iff_eq] at h
    obtain ⟨e, he, n, hn, zs, hz, i, hi, X, hX, ⟨⟨h0, h1⟩, h2⟩, rfl⟩ := h
    obtain rfl := sameOpd_eq h0
    exact in_mks ho (sliceElem_some he) hn h1 hz h2 hi rfl hX hdst hd hok
  case h_19 T x ho =>
    simp only [Option.bind_eq_some_iff, oif_some, Option.some.injEq] at h
    obtain ⟨X, hX, hT, rfl⟩ := h
    unfold concrete' at hT
    split at hT
    · cases hT
    · rename_i u hn hu
      exact in_ifc ho hu (fun m e => hn m e) hX hdst hd
    · cases hT
  case h_20 name first xs ho =>
    split at h
    · rename_i x hf
      obtain rfl : first = #[x] := by apply Array.ext'; simpa using hf
      simp only [Option.bind_eq_some_iff, oif_some, Option.some.injEq, Array.isEmpty_iff] at h
      obtain ⟨X, hX, rfl, rfl⟩ := h
      exact in_mkb ho hX hdst hd hok
    · cases h
  case h_21 f first xs ho =>
    simp only [Option.bind_eq_some_iff, oif_some, Option.some.injEq, Array.isEmpty_iff] at h
    obtain ⟨Xs, hX, rfl, rfl⟩ := h
    exact in_mkf ho hX hdst hd
  case h_22 x ho =>
    simp only [Option.bind_eq_some_iff, Option.some.injEq] at h
    obtain ⟨s, hs, rfl⟩ := h
    obtain ⟨rfl, hs'⟩ := tmpOf_some hs
    rcases hok with hok | ⟨t, name, e, hv, hn⟩
    · exact in_nilc ho hs' hdst hd hok
    · exact in_nilb ho hs' hdst hd hv hn
  case h_23 args ts ho =>
    split at h
    · rename_i x T ha ht
      obtain rfl : args = #[x] := by apply Array.ext'; simpa using ha
      obtain rfl : ts = #[T] := by apply Array.ext'; simpa using ht
      simp only [Option.bind_eq_some_iff] at h
      obtain ⟨X, hX, h⟩ := h
      split at h
      · rename_i hT
        obtain rfl := Option.some.inj h
        exact in_lens ho (isString_some hT) hX hdst hd hok
      · simp only [Option.bind_eq_some_iff, Option.some.injEq] at h
        obtain ⟨e, he, rfl⟩ := h
        exact in_len ho (sliceElem_some he) hX hdst hd hok
    · cases h
  case h_24 args ts ho =>
    split at h
    · rename_i x y T U ha ht
      obtain rfl : args = #[x, y] := by apply Array.ext'; simpa using ha
      obtain rfl : ts = #[T, U] := by apply Array.ext'; simpa using ht
      simp only [Option.bind_eq_some_iff, oif_some, Option.some.injEq, Bool.and_eq_true, decide_eq_true_eq, beq_iff_eq] at h
      obtain ⟨X, hX, Y, hY, e, he, n, hn, zs, hz, i, hi, ⟨⟨h0, h1⟩, h2⟩, rfl⟩ := h
      subst h2
      exact in_app ho (sliceElem_some he) hn rfl h0 hz h1 hi rfl hX hY hdst hd hok
    · cases h
  case h_25 b args ts _ _ ho =>
    split at h
    · rename_i x y ha
      obtain rfl : args = #[x, y] := by apply Array.ext'; simpa using ha
      simp only [Option.bind_eq_some_iff, Option.some.injEq] at h
      obtain ⟨mx, hb, X, hX, Y, hY, rfl⟩ := h
      rw [isMm_eq hb] at ho
      exact in_mm ho hX hY hdst hd hok
    · cases h
  case h_26 => cases h

theorem ccall_call {d' f : Nat} {xs : List Opd} (h : ccall P o d = some (.call d' f xs)) : d' = d ∧ enters P f = true ∧ ∃ (ops : Array Operand) (ts : Array TypeId), o.op = .call { callee := .value (.func f), args := ops, argTypes := ts } ∧ ops.toList.mapM opd = some xs := by
  unfold ccall at h
  split at h
  · rename_i f' args ts ho
    simp only [Option.bind_eq_some_iff, oif_some, Option.some.injEq, In.call.injEq] at h
    obtain ⟨xs, hx, hf, rfl, rfl, rfl⟩ := h
    exact ⟨rfl, hf, args, ts, ho, hx⟩
  · simp only [Option.bind_eq_some_iff, Option.some.injEq, reduceCtorEq, and_false, exists_false] at h
  · simp only [Option.bind_eq_some_iff, Option.some.injEq, reduceCtorEq, and_false, exists_false] at h
  · cases h
theorem ccall_cal {d' : Nat} {X : Opd} {xs : List Opd} (h : ccall P o d = some (.cal d' X xs)) : d' = d ∧ ∃ (x : Operand) (ops : Array Operand) (ts : Array TypeId), o.op = .call { callee := .value x, args := ops, argTypes := ts } ∧ opd x = some X ∧ ops.toList.mapM opd = some xs := by
  unfold ccall at h
  split at h
  · simp only [Option.bind_eq_some_iff, oif_some, Option.some.injEq, reduceCtorEq, and_false, exists_false] at h
  · rename_i x args ts _ ho
    simp only [Option.bind_eq_some_iff, Option.some.injEq, In.cal.injEq] at h
    obtain ⟨X, hX, xs, hx, rfl, rfl, rfl⟩ := h
    exact ⟨rfl, x, args, ts, ho, hX, hx⟩
  · simp only [Option.bind_eq_some_iff, Option.some.injEq, reduceCtorEq, and_false, exists_false] at h
  · cases h
theorem ccall_inv {d' : Nat} {X : Opd} {name : String} {xs : List Opd} (h : ccall P o d = some (.inv d' X name xs)) : d' = d ∧ ∃ (x : Operand) (ops : Array Operand) (ts : Array TypeId), o.op = .call { callee := .invoke x name, args := ops, argTypes := ts } ∧ opd x = some X ∧ ops.toList.mapM opd = some xs := by
  unfold ccall at h
  split at h
  · simp only [Option.bind_eq_some_iff, oif_some, Option.some.injEq, reduceCtorEq, and_false, exists_false] at h
  · simp only [Option.bind_eq_some_iff, Option.some.injEq, reduceCtorEq, and_false, exists_false] at h
  · rename_i x name' args ts ho
    simp only [Option.bind_eq_some_iff, Option.some.injEq, In.inv.injEq] at h
    obtain ⟨X, hX, xs, hx, rfl, rfl, rfl, rfl⟩ := h
    exact ⟨rfl, x, args, ts, ho, hX, hx⟩
  · cases h

theorem cop_ok (h : cop P G.n xo o = some ins) (hok : ins.okP P σ) : OpOK P G o (ins.ent σ) σ (ins.upd σ) := by
  unfold cop at h
  cases hd : o.dst with
  | some d =>
    rw [hd] at h
    simp only [oif_some, decide_eq_true_eq] at h
    exact copD_ok h.2 hd h.1 hok
  | none =>
    rw [hd] at h
    simp only at h
    split at h
    · rename_i T s x ho
      simp only [Option.bind_eq_some_iff, oif_some, Option.some.injEq, decide_eq_true_eq] at h
      obtain ⟨t, ht, n, hn, X, hX, h0, rfl⟩ := h
      obtain ⟨rfl, ht'⟩ := tmpOf_some ht
      exact in_sto ho ht' hn h0 hX hd hok
    · cases h

end
end
section
open Go.RowKit

/-- A mark: what is still to be worked out. -/
def hold {α : Sort _} (x : α) : α := x
theorem hold_eq {α : Sort _} (x : α) : hold x = x := rfl

mutual
/-- The first cells of a row, where they stand still. -/
def D.frz (g s : Nat) (es : List D) : D → D
  | .any => .any
  | .v x => .v x
  | .sl a b => .sl a b
  | .nul => .nul
  | .agg cs => .agg (D.frzL g s es cs)
  | .tup cs => .tup (D.frzL g s es cs)
  | .ifc t d => .ifc t (D.frz g s es d)
  | .bnd t name d => .bnd t name (D.frz g s es d)
  | .fn f cs => .fn f (D.frzL g s es cs)
  | .ptr cs => .ptr cs
  | .ref a b => .ref a b
  | .own h t n => if h = g ∧ t = s ∧ n ≤ es.length then .sl s (es.take n) else .own h t n
  | .eref a b c d => .eref a b c d
  | .obj cs => .obj (D.frzL g s es cs)
  | .row a b => .row a b
  | .free => .free
def D.frzL (g s : Nat) (es : List D) : List D → List D
  | [] => []
  | d :: l => D.frz g s es d :: D.frzL g s es l
end
theorem D.frzL_map (g s : Nat) (es : List D) : ∀ l : List D, D.frzL g s es l = l.map (D.frz g s es)
  | [] => rfl
  | d :: l => by rw [D.frzL, D.frzL_map g s es l]; rfl

theorem Fz.frz {w w' : World} {F F' : Cells} {T : Blocks} {m : Names} {g s : Nat} {es : List D} (c : Chg w F T w' F') (hrow : ∀ (m' : Names) (n : Nat) (x : Value), m' g = m g → Fz w F m' (.own g s n) x → n ≤ es.length → Fz w' F' m' (.sl s (es.take n)) x)
    {m' : Names} {d : D} {x : Value} (h : Fz w F m' d x) : m' g = m g → Fz w' F' m' (d.frz g s es) x := by
  have cs_at : ∀ {cs : List D} {i : Nat} {d : D}, (D.frzL g s es cs)[i]? = some d → ∃ e, cs[i]? = some e ∧ d = e.frz g s es := by
    intro cs i d hd
    rw [D.frzL_map, List.getElem?_map] at hd
    cases hc : cs[i]? with
    | none => rw [hc] at hd; cases hd
    | some e => rw [hc] at hd; exact ⟨e, rfl, by simpa using hd.symm⟩
  induction h with
  | any m x => intro _; exact .any m x
  | v m x => intro _; exact .v m x
  | sl0 m s a cap => intro _; exact .sl0 m s a cap
  | sl m s es b off cap u hs hle hlen hu hr ih => intro _; exact (Fz.sl m s es b off cap u hs hle hlen hu hr).still c
  | nul m a => intro _; exact .nul m a
  | agg m cs us hl h1 hr ih =>
    intro hm
    rw [D.frz]
    exact .agg m _ us (by rw [D.frzL_map, List.length_map]; exact hl) h1 (fun i d u hd hu => by obtain ⟨e, he, rfl⟩ := cs_at hd; exact ih i e u he hu hm)
  | tup m cs us hl hr ih =>
    intro hm
    rw [D.frz]
    exact .tup m _ us (by rw [D.frzL_map, List.length_map]; exact hl) (fun i d u hd hu => by obtain ⟨e, he, rfl⟩ := cs_at hd; exact ih i e u he hu hm)
  | ifc m t d x h ih => intro hm; rw [D.frz]; exact .ifc m t _ x (ih hm)
  | bnd m t name d x h ih => intro hm; rw [D.frz]; exact .bnd m t name _ x (ih hm)
  | fn m f cs us hl hr ih =>
    intro hm
    rw [D.frz]
    exact .fn m f _ us (by rw [D.frzL_map, List.length_map]; exact hl) (fun i d u hd hu => by obtain ⟨e, he, rfl⟩ := cs_at hd; exact ih i e u he hu hm)
  | ptr m cs b off u hu hr ih => intro _; exact (Fz.ptr m cs b off u hu hr).still c
  | ref m g o b hg => intro _; exact .ref m g o b hg
  | own m h t n b cap cur U hg hs hle hb hcap =>
    intro hm
    rw [D.frz]
    split
    · rename_i e
      obtain ⟨rfl, rfl, hn⟩ := e
      exact hrow m n _ hm (.own m h t n b cap cur U hg hs hle hb hcap) hn
    · exact (Fz.own m h t n b cap cur U hg hs hle hb hcap).still c
  | own0 m h t a hg =>
    intro hm
    rw [D.frz]
    split
    · rename_i e
      obtain ⟨rfl, rfl, hn⟩ := e
      exact hrow m 0 _ hm (.own0 m h t a hg) hn
    · exact .own0 m h t a hg
  | eref m g s i o b hg => intro _; exact .eref m g s i o b hg

section
variable {P : Program} {G : Ctx} {σ τ : Env} {a : Act} {w : World} {F : Cells} {m : Names} {tm : Array Value}

/-- A row of one's own stands still from now on. -/
theorem RelF.freeze (h : RelF G τ tm w F m) {g s : Nat} {es : List D} (hg : nb ≤ g) (hr : τ g = .row s es) (hp : D.purL es = true) :
    ∃ F', RelF G (τ.set g .any) tm w F' m ∧ ∀ (d : D) (x : Value), Fz w F m d x → Fz w F' m (d.frz g s es) x := by
  have hb := h.blks g hg
  rw [hr] at hb
  have hbl : (τ g).isBlk = true := by rw [hr]; rfl
  rcases hb with ⟨rfl, hmg⟩ | ⟨b, cur, T, hmg, hcur, hs, hlen, hsz, hc, hF⟩
  · refine ⟨F, h.turn hg hbl (Chg.refl w F _) h.wf trivial (fun e => by cases e), fun d x hx => hx.frz (Chg.refl w F noBlocks) (fun m' n x hm' hx hn => ?_) rfl⟩
    obtain rfl : n = 0 := by simpa using hn
    cases hx with
    | own _ _ _ _ b cap cur U hg' => rw [hm', hmg] at hg'; cases hg'
    | own0 _ _ _ a' hg' => exact .sl0 m' s a' 0
  · have c : Chg w F (fun k => m g = some (some k)) w (F.with b (es.length * s)) := by
      refine ⟨rfl, rfl, rfl, Nat.le_refl _, fun _ _ _ => rfl, fun b cur U z hb => ⟨cur, hb, rfl⟩, fun b o hf => ⟨.inl hf, rfl⟩, fun k o hf hk hn => ?_, Nat.le_refl _⟩
      rcases hf with hf | ⟨rfl, _⟩
      · exact hf
      · exact absurd hmg hn
    have hblt : b < w.heap.size := (Array.getElem?_eq_some_iff.1 hcur).1
    refine ⟨F.with b (es.length * s), h.turn hg hbl c (fun k o hf => ?_) trivial (fun e => by cases e), fun d x hx => hx.frz c (fun m' n x hm' hx hn => ?_) rfl⟩
    · rcases hf with hf | ⟨rfl, _⟩
      · exact h.wf k o hf
      · exact hblt
    · have main : ∀ cap, n ≤ cap → Fz w (F.with b (es.length * s)) m' (.sl s (es.take n)) (.slice (some ⟨b, 0, none⟩) n cap) := by
        intro cap hle
        have hpl : CellsOK w F noNames (D.flat es) (cur.toList.take (es.length * s)) := hc.pure (m' := noNames) (D.purL_iff.2 (fun d hd => by
          obtain ⟨e', he', hd⟩ := List.mem_flatMap.1 hd
          have h1 := D.purL_iff.1 hp e' he'
          cases e' with
          | agg cs => exact D.purL_iff.1 h1 d hd
          | _ => obtain rfl := List.mem_singleton.1 hd; exact h1))
        obtain ⟨h1, h2, h3⟩ := part_cells hs hlen hpl 0 n (Nat.zero_le _) hn
        rw [List.drop_zero, Nat.zero_mul, List.drop_zero, Nat.sub_zero] at h3
        rw [List.drop_zero] at h1
        have hlt : (es.take n).length = n := by rw [List.length_take]; omega
        have hle2 : n * s ≤ es.length * s := Nat.mul_le_mul_right _ hn
        have := Fz.ofCells (w := w) (F := F.with b (es.length * s)) (m := m') (b := b) (off := 0) (cap := cap) hs (by rw [hlt]; exact hle) h1 (h3.stable c (fun _ _ h => h)) (fun j v hj => by
          rw [List.getElem?_take] at hj
          split at hj
          · rename_i hjn
            rw [List.getElem?_take, if_pos (by omega)] at hj
            refine ⟨?_, .inr ⟨rfl, by omega⟩⟩
            rw [Nat.zero_add, cell_of_row w b j cur T (0, 0) hcur, ← Array.getElem?_toList]
            exact hj
          · cases hj)
        rw [hlt] at this
        exact this
      cases hx with
      | own _ _ _ _ b' cap cur' U hg' hs' hle' hb' hcap' =>
        rw [hm', hmg] at hg'
        obtain rfl : b = b' := by simpa using hg'
        exact main cap hle'
      | own0 _ _ _ a' hg' => rw [hm', hmg] at hg'; cases hg'

/-- What is known may be put otherwise. -/
def Wk (k : Nat) (σ τ : Env) : Prop := ∀ (G : Ctx) (a : Act) (w : World), G.k = k → Rel G σ a w → Rel G τ a w
theorem Wk.refl (k : Nat) (σ : Env) : Wk k σ σ := fun _ _ _ _ h => h
theorem Wk.trans {k : Nat} {σ τ ρ : Env} (h : Wk k σ τ) (h1 : Wk k τ ρ) : Wk k σ ρ := fun G a w hk hR => h1 G a w hk (h G a w hk hR)

/-- A slot's row stands still from now on. -/
def frzU (σ : Env) (t g s : Nat) (es : List D) : Upd := [(g, .any), (t, (σ t).frz g s es)]
theorem Rel.frz {t g s : Nat} {es : List D} (hR : Rel G τ a w) (ht : t < nb) (hg : nb ≤ g) (hr : τ g = .row s es) (hp : D.purL es = true) : Rel G (Env.put (frzU τ t g s es) τ) a w := by
  obtain ⟨hd, F, m, h⟩ := hR
  obtain ⟨F', h1, h2⟩ := h.freeze hg hr hp
  exact ⟨hd, F', m, h1.recast ht (h2 _ _ (h.slots t ht))⟩
/-- The same for what lies in a cell of one's own. -/
def frzO (σ : Env) (q g s : Nat) (es : List D) : Upd := [(g, .any), (q, (σ q).frz g s es)]
theorem Rel.frzObj {q g s : Nat} {es cs : List D} (hR : Rel G τ a w) (hq : nb ≤ q) (hqg : q ≠ g) (hcs : τ q = .obj cs) (hg : nb ≤ g) (hr : τ g = .row s es) (hp : D.purL es = true) : Rel G (Env.put (frzO τ q g s es) τ) a w := by
  obtain ⟨hd, F, m, h⟩ := hR
  obtain ⟨F', h1, h2⟩ := h.freeze hg hr hp
  have e : (τ.set g .any) q = τ q := Env.set_ne _ _ _ _ hqg
  have hbl : ((τ.set g .any) q).isBlk = true := by rw [e, hcs]; rfl
  refine ⟨hd, F', m, h1.turn hq hbl (Chg.refl w F' _) h1.wf ?_ (fun e => by rw [hcs, D.frz] at e; cases e)⟩
  have h0 := h.blks q hq
  have h3 := h1.blks q hq
  rw [e, hcs] at h3
  rw [hcs] at h0 ⊢
  obtain ⟨b, cur, T, hm, hb, hc, hF⟩ := h3
  obtain ⟨b0, cur0, T0, hm0, hb0, hc0, _⟩ := h0
  obtain rfl : b0 = b := by rw [hm] at hm0; simpa using hm0.symm
  obtain rfl : cur0 = cur := by rw [hb] at hb0; injection hb0 with h; injection h with h _ _; exact h.symm
  rw [D.frz]
  refine ⟨b0, cur0, T, hm, hb, ⟨by rw [D.frzL_map, List.length_map]; exact hc0.len, hc0.one, fun j d u hd hu => ?_⟩, hF⟩
  rw [D.frzL_map, List.getElem?_map] at hd
  cases hj : cs[j]? with
  | none => rw [hj] at hd; cases hd
  | some e' =>
    rw [hj] at hd
    obtain rfl : e'.frz g s es = d := by simpa using hd
    exact h2 _ _ (hc0.fz j e' u hj hu)

def nodupB : List Nat → Bool
  | [] => true
  | x :: l => !l.contains x && nodupB l
theorem nodupB_spec : ∀ {l : List Nat}, nodupB l = true → l.Nodup
  | [], _ => List.nodup_nil
  | x :: l, h => by
    rw [nodupB, Bool.and_eq_true, Bool.not_eq_true'] at h
    exact List.nodup_cons.2 ⟨(fun hm => by rw [List.contains_iff_mem.2 hm] at h; exact absurd h.1 (by decide)), nodupB_spec h.2⟩
/-- A list of names, the first k of which are those that were handed over. -/
def canB (k : Nat) (L : List Nat) : Bool := nodupB L && L.all (fun g => decide (nb ≤ g)) && (List.range k).all fun i => L[i]? == some (nb + i)
structure Can (k : Nat) (L : List Nat) : Prop where
  nd : L.Nodup
  ge : ∀ g, g ∈ L → nb ≤ g
  fix : ∀ i, i < k → L[i]? = some (nb + i)
theorem can_of {k : Nat} {L : List Nat} (h : canB k L = true) : Can k L := by
  simp only [canB, Bool.and_eq_true, List.all_eq_true, decide_eq_true_eq, beq_iff_eq, List.mem_range] at h
  exact ⟨nodupB_spec h.1.1, h.1.2, h.2⟩

/-- What a name may hold. -/
def D.nmd : D → Bool
  | .obj _ => true
  | .row _ _ => true
  | .any => true
  | .free => true
  | _ => false
/-- Names told anew by a list. -/
theorem Wk.names {k : Nat} {L : List Nat} (hL : Can k L) (hslot : ∀ t, t < nb → τ t = .any ∨ σ t = (τ t).ren L) (hname : ∀ i g, L[i]? = some g → τ (nb + i) = .any ∨ ((τ (nb + i)).nmd = true ∧ σ g = (τ (nb + i)).ren L)) (hout : ∀ g, nb + L.length ≤ g → τ g = .free) : Wk k σ τ := by
  rintro G a w rfl ⟨hd, F, m, h⟩
  refine ⟨hd, F, fun g => (nameOf L g).bind m, ?_⟩
  have hm : ∀ g g', nameOf L g = some g' → (fun g => (nameOf L g).bind m) g = m g' := fun g g' hg => by simp [hg]
  have hat : ∀ i g, L[i]? = some g → (nameOf L (nb + i)).bind m = m g := fun i g hg => by rw [nameOf_at, hg]; rfl
  have split : ∀ g, nb ≤ g → (∃ (i : Nat) (g' : Nat), g = nb + i ∧ L[i]? = some g') ∨ nb + L.length ≤ g := by
    intro g hg
    by_cases hl : g - nb < L.length
    · exact .inl ⟨g - nb, _, by omega, List.getElem?_eq_getElem hl⟩
    · exact .inr (by omega)
  have blk : ∀ i g, L[i]? = some g → (τ (nb + i)).isBlk = true → (σ g).isBlk = true := by
    intro i g hi hb
    rcases hname i g hi with e | ⟨_, e⟩
    · rw [e] at hb; cases hb
    · rw [e, isBlk_ren]; exact hb
  refine ⟨h.size, h.nle, fun t ht => ?_, fun g hg => ?_, fun g1 g2 b hg1 hg2 hb1 hb2 hm1 hm2 => ?_, h.wf, h.chg, fun g b hg hb hmg => ?_, fun i hi => ?_⟩
  · rcases hslot t ht with e | e
    · rw [e]; exact .any _ _
    · exact (h.slots t ht).unren hm e.symm
  · rcases split g hg with ⟨i, g', rfl, hi⟩ | ho
    · rcases hname i g' hi with e | ⟨hk, e⟩
      · rw [e]; trivial
      · have hb := h.blks g' (hL.ge g' (List.mem_of_getElem? hi))
        rw [e] at hb
        cases hv : τ (nb + i) with
        | any => trivial
        | free =>
          rw [hv, D.ren] at hb
          show (nameOf L (nb + i)).bind m = none
          rw [hat i g' hi]
          exact hb
        | obj cs => rw [hv] at hb; exact hb.unren rfl hm (hat i g' hi)
        | row s es => rw [hv] at hb; exact hb.unren rfl hm (hat i g' hi)
        | _ => rw [hv] at hk; cases hk
    · rw [hout g ho]
      show (nameOf L g).bind m = none
      unfold nameOf
      rw [if_neg (by omega), List.getElem?_eq_none (by omega)]
      rfl
  · rcases split g1 hg1 with ⟨i, g1', rfl, hi⟩ | ho
    · rcases split g2 hg2 with ⟨j, g2', rfl, hj⟩ | ho
      · rw [hat i g1' hi] at hm1
        rw [hat j g2' hj] at hm2
        have e := h.inj g1' g2' b (hL.ge _ (List.mem_of_getElem? hi)) (hL.ge _ (List.mem_of_getElem? hj)) (blk i g1' hi hb1) (blk j g2' hj hb2) hm1 hm2
        subst e
        rw [(List.getElem?_inj (List.getElem?_eq_some_iff.1 hi).1 hL.nd).1 (hi.trans hj.symm)]
      · rw [hout g2 ho] at hb2; cases hb2
    · rw [hout g1 ho] at hb1; cases hb1
  · rcases split g hg with ⟨i, g', rfl, hi⟩ | ho
    · rw [hat i g' hi] at hmg
      exact h.own g' b (hL.ge _ (List.mem_of_getElem? hi)) (blk i g' hi hb) hmg
    · rw [hout g ho] at hb; cases hb
  · obtain ⟨h1, h2⟩ := h.par i hi
    have hi' := hL.fix i hi
    refine ⟨fun e => ?_, by rw [← h2]; exact hat i _ hi'⟩
    rcases hname i _ hi' with e' | ⟨_, e'⟩
    · rw [e] at e'; cases e'
    · rw [e, D.ren] at e'; exact h1 e'

/-- Slots and names of a list; of the other slots nothing, and c names in all. -/
def base (c : Nat) : Env := fun t => if t < nb then .any else if t < nb + c then .any else .free
def ofL (c : Nat) : List (Nat × D) → Env
  | [] => base c
  | p :: l => (ofL c l).set p.1 p.2
def agr1 (σ : Env) (L : List Nat) (p : Nat × D) : Prop :=
  if p.1 < nb then σ p.1 = p.2.ren L else match L[p.1 - nb]? with
    | some g => p.2.nmd = true ∧ σ g = p.2.ren L
    | none => False
def agr (σ : Env) (L : List Nat) : List (Nat × D) → Prop
  | [] => True
  | p :: l => agr1 σ L p ∧ agr σ L l
theorem Wk.list {k c : Nat} (L : List Nat) {l : List (Nat × D)} (hc : L.length = c) (hL : canB k L = true) (hh : hold (agr σ L l)) : Wk k σ (ofL c l) := by
  have h : agr σ L l := hh
  clear hh
  have key : (∀ t, t < nb → ofL c l t = .any ∨ σ t = (ofL c l t).ren L) ∧ (∀ i g, L[i]? = some g → ofL c l (nb + i) = .any ∨ ((ofL c l (nb + i)).nmd = true ∧ σ g = (ofL c l (nb + i)).ren L)) ∧ ∀ g, nb + L.length ≤ g → ofL c l g = .free := by
    subst hc
    induction l with
    | nil =>
      refine ⟨fun t ht => .inl ?_, fun i g hi => .inl ?_, fun g hg => ?_⟩
      · show base _ t = _; unfold base; rw [if_pos ht]
      · have := (List.getElem?_eq_some_iff.1 hi).1
        show base _ _ = _; unfold base; rw [if_neg (by omega), if_pos (by omega)]
      · show base _ _ = _; unfold base; rw [if_neg (by omega), if_neg (by omega)]
    | cons p l ih =>
      obtain ⟨h1, h2, h3⟩ := ih h.2
      have hp := h.1
      unfold agr1 at hp
      have hlt : p.1 < nb + L.length := by
        split at hp
        · omega
        · split at hp
          · rename_i g hg; have := (List.getElem?_eq_some_iff.1 hg).1; omega
          · exact hp.elim
      refine ⟨fun t ht => ?_, fun i g hi => ?_, fun g hg => ?_⟩
      · by_cases e : t = p.1
        · subst e; rw [if_pos ht] at hp; rw [ofL, Env.set_same]; exact .inr hp
        · rw [ofL, Env.set_ne _ _ _ _ e]; exact h1 t ht
      · by_cases e : nb + i = p.1
        · rw [← e, if_neg (by omega), show nb + i - nb = i by omega, hi] at hp
          rw [ofL, e, Env.set_same]; exact .inr hp
        · rw [ofL, Env.set_ne _ _ _ _ e]; exact h2 i g hi
      · rw [ofL, Env.set_ne _ _ _ _ (by omega)]; exact h3 g hg
  exact Wk.names (can_of hL) key.1 key.2.1 key.2.2

end
end
section
open Go.RowKit

/-- An instruction, the slot that it writes, the slot that lets it; whether it is a call. -/
structure GI where
  ins : In
  dst : Option Nat
  g : Option (Nat × Bool)
  c : Bool

def skipUpd : Option Nat → Upd
  | none => []
  | some d => [(d, .v undef)]

/-- An operation: a call, or not. -/
def copc (P : Program) (N : Nat) (xo : List Nat) (o : Oper) : Option (In × Bool) :=
  oif (o.dst.all fun d => decide (d < N)) (match o.dst.bind (ccall P o) with
    | some ins => some (ins, true)
    | none => (cop P N xo o).bind fun ins => some (ins, false))
def cgi (P : Program) (N : Nat) (xo : List Nat) (ops : Array Oper) (o : Oper) : Option GI :=
  (copc P N xo o).bind fun q => match o.guard with
    | none => some ⟨q.1, o.dst, none, q.2⟩
    | some (g, v) => ((ops[g]?).bind (·.dst)).bind fun s => oif (decide (s < N)) (some ⟨q.1, o.dst, some (s, v), q.2⟩)
def cgis (P : Program) (N : Nat) (xo : List Nat) (ops : Array Oper) : List Oper → Option (List GI)
  | [] => some []
  | o :: l => (cgi P N xo ops o).bind fun gi => (cgis P N xo ops l).bind fun m => some (gi :: m)

/-- What an operation read so writes, wherever the slots that it reads hold what they hold in σ. -/
def OpSem (P : Program) (ins : In) (c : Bool) (σ : Env) (e : Ent) (upd : Upd) : Prop := ∀ (G : Ctx) (xo : List Nat) (o : Oper), copc P G.n xo o = some (ins, c) → OpOK P G o e σ upd
def StepSem (P : Program) (gi : GI) (σ : Env) (e : Ent) (upd : Upd) : Prop := ∀ (G : Ctx) (xo : List Nat) (ops : Array Oper) (i : Nat) (o : Oper), ops[i]? = some o → cgi P G.n xo ops o = some gi → StepOK P ops G i e σ upd

def push (e : Ent) : Option (List Ent) → Option (List Ent)
  | none => none
  | some l => some (e :: l)
theorem push_none (e : Ent) : push e none = none := rfl
theorem push_some (e : Ent) (l : List Ent) : push e (some l) = some (e :: l) := rfl

/-- The instructions of a region, one after the other; acc: what those before read and wrote, where the order is drawn. -/
def evG (P : Program) (B : List Nat) : List GI → Env → Option (List Ent) → (Env → Prop) → Prop
  | [], σ, acc, N => (match acc with
    | some a => okPairs B 0 a.reverse = true
    | none => True) ∧ N σ
  | gi :: l, σ, acc, N => ∃ e upd, StepSem P gi σ e upd ∧ evG P B l (Env.put upd σ) (push e acc) N
/-- One instruction, and the rest. -/
def evS (P : Program) (B : List Nat) (rd wr : List Nat) (ins : In) (c : Bool) (l : List GI) (σ : Env) (acc : Option (List Ent)) (N : Env → Prop) : Prop :=
  ∃ e upd, OpSem P ins c σ e upd ∧ evG P B l (Env.put upd σ) (push ⟨rd ++ e.rd, wr ++ e.wr⟩ acc) N
/-- A guarded instruction, by what its guard's slot holds. -/
def evQ (P : Program) (B : List Nat) (d : D) (s : Nat) (v : Bool) (ins : In) (c : Bool) (o : Option Nat) (l : List GI) (σ : Env) (acc : Option (List Ent)) (N : Env → Prop) : Prop :=
  match d with
  | .v (.bool q) => (q = v → evS P B [s] o.toList ins c l σ acc N) ∧ (q = !v → evG P B l (Env.put (skipUpd o) σ) (push ⟨[s], o.toList⟩ acc) N)
  | .v _ => evG P B l (Env.put (skipUpd o) σ) (push ⟨[s], o.toList⟩ acc) N
  | _ => False
/-- A call of f with ds, where the operands were read from rds. -/
def evC (P : Program) (B : List Nat) (f : FuncId) (ds : List D) (rds : List Nat) (d : Nat) (rd wr : List Nat) (l : List GI) (σ : Env) (acc : Option (List Ent)) (N : Env → Prop) : Prop :=
  ∃ (H es H' : List D) (r : D) (R : List Nat), Does P f H es r H' ∧ CallOK σ R H H' ∧ ds = es.map (D.ren R) ∧ evG P B l (Env.put (callU R H' d r) σ) (push ⟨rd ++ (rds ++ R), wr ++ (R ++ [d])⟩ acc) N
def evV (P : Program) (B : List Nat) (x : D) (ds : List D) (rds : List Nat) (d : Nat) (rd wr : List Nat) (l : List GI) (σ : Env) (acc : Option (List Ent)) (N : Env → Prop) : Prop :=
  match x with
  | .fn f cs => enters P f = true ∧ evC P B f (ds ++ cs) rds d rd wr l σ acc N
  | .bnd t name e => ∃ f e', MethAt P t name e f e' ∧ evC P B f (e' :: ds) rds d rd wr l σ acc N
  | _ => False
def evI (P : Program) (B : List Nat) (x : D) (name : String) (ds : List D) (rds : List Nat) (d : Nat) (rd wr : List Nat) (l : List GI) (σ : Env) (acc : Option (List Ent)) (N : Env → Prop) : Prop :=
  match x with
  | .ifc t e => ∃ f e', MethAt P t name e f e' ∧ evC P B f (e' :: ds) rds d rd wr l σ acc N
  | _ => False

section
variable {P : Program} {G : Ctx} {σ : Env} {B : List Nat} {l : List GI} {acc : Option (List Ent)} {N : Env → Prop} {ins : In} {o : Option Nat} {c : Bool} {rd wr : List Nat}

theorem copc_call {xo : List Nat} {n : Nat} {op : Oper} (h : copc P n xo op = some (ins, true)) : ∃ d, op.dst = some d ∧ d < n ∧ ccall P op d = some ins := by
  unfold copc at h
  rw [oif_some] at h
  obtain ⟨h1, h2⟩ := h
  cases hd : op.dst with
  | none =>
    rw [hd] at h2
    simp only [Option.bind_none, Option.bind_eq_some_iff, Option.some.injEq, Prod.mk.injEq, Bool.false_eq_true, and_false, exists_false] at h2
  | some d =>
    rw [hd] at h1 h2
    simp only [Option.all_some, decide_eq_true_eq] at h1
    refine ⟨d, rfl, h1, ?_⟩
    simp only [Option.bind_some] at h2
    cases hc : ccall P op d with
    | none =>
      rw [hc] at h2
      simp only [Option.bind_eq_some_iff, Option.some.injEq, Prod.mk.injEq, Bool.false_eq_true, and_false, exists_false] at h2
    | some i =>
      rw [hc] at h2
      simp only [Option.some.injEq, Prod.mk.injEq, and_true] at h2
      rw [h2]
theorem copc_op {xo : List Nat} {n : Nat} {op : Oper} (h : copc P n xo op = some (ins, false)) : cop P n xo op = some ins := by
  unfold copc at h
  rw [oif_some] at h
  obtain ⟨h1, h2⟩ := h
  split at h2
  · simp only [Option.some.injEq, Prod.mk.injEq, Bool.true_eq_false, and_false] at h2
  · simpa only [Option.bind_eq_some_iff, Option.some.injEq, Prod.mk.injEq, and_true, exists_eq_right] using h2
theorem copc_dst {xo : List Nat} {n : Nat} {op : Oper} {q : In × Bool} (h : copc P n xo op = some q) : ∀ d, op.dst = some d → d < n := by
  unfold copc at h
  rw [oif_some] at h
  intro d hd
  rw [hd] at h
  simpa using h.1

theorem wanted_none {o : Oper} (h : o.guard = none) (y : Nat → Option Bool) : Region.wanted o y = true := by
  unfold Region.wanted
  rw [h]
theorem wanted_some {o : Oper} {g : Nat} {v : Bool} (h : o.guard = some (g, v)) (y : Nat → Option Bool) : Region.wanted o y = (y g == some v) := by
  unfold Region.wanted
  rw [h]

theorem cgi_none {xo : List Nat} {n : Nat} {ops : Array Oper} {op : Oper} (h : cgi P n xo ops op = some ⟨ins, o, none, c⟩) : op.guard = none ∧ copc P n xo op = some (ins, c) ∧ op.dst = o := by
  simp only [cgi, Option.bind_eq_some_iff] at h
  obtain ⟨⟨i, c'⟩, hi, h⟩ := h
  cases hg : op.guard with
  | none =>
    rw [hg] at h
    simp only [Option.some.injEq, GI.mk.injEq, true_and] at h
    obtain ⟨rfl, rfl, rfl⟩ := h
    exact ⟨rfl, hi, rfl⟩
  | some p =>
    rw [hg] at h
    simp only [Option.bind_eq_some_iff, oif_some, Option.some.injEq, GI.mk.injEq, reduceCtorEq, false_and, and_false, exists_false] at h
theorem cgi_some {xo : List Nat} {n s : Nat} {v : Bool} {ops : Array Oper} {op : Oper} (h : cgi P n xo ops op = some ⟨ins, o, some (s, v), c⟩) :
    ∃ g og, op.guard = some (g, v) ∧ ops[g]? = some og ∧ og.dst = some s ∧ s < n ∧ copc P n xo op = some (ins, c) ∧ op.dst = o := by
  simp only [cgi, Option.bind_eq_some_iff] at h
  obtain ⟨⟨i, c'⟩, hi, h⟩ := h
  cases hg : op.guard with
  | none =>
    rw [hg] at h
    simp only [Option.some.injEq, GI.mk.injEq, reduceCtorEq, false_and, and_false] at h
  | some p =>
    obtain ⟨g, v'⟩ := p
    rw [hg] at h
    simp only [Option.bind_eq_some_iff, oif_some, Option.some.injEq, GI.mk.injEq, Prod.mk.injEq, decide_eq_true_eq] at h
    obtain ⟨s', ⟨og, hog, hos⟩, hs, rfl, rfl, ⟨rfl, rfl⟩, rfl⟩ := h
    exact ⟨g, og, rfl, hog, hos, hs, hi, rfl⟩

theorem sem_none {e : Ent} {upd : Upd} (h : OpSem P ins c σ e upd) : StepSem P ⟨ins, o, none, c⟩ σ e upd := by
  intro G xo ops i op hi hc
  obtain ⟨hg, hcp, _⟩ := cgi_none hc
  have hop := h G xo op hcp
  refine ⟨hop.wr, fun τ a w K Q hag hR hK => ?_⟩
  unfold wpOp
  rw [hi]
  simp only [wanted_none hg, if_true]
  exact .inl (hop.run τ a w K Q hag hR hK)

/-- What the guard says, wherever its slot holds what it holds. -/
theorem guard_tell {ops : Array Oper} {g s : Nat} {og : Oper} (hog : ops[g]? = some og) (hos : og.dst = some s) (hs : s < G.n) {x : Value} (hx : σ s = .v x) {τ : Env} {a : Act} {w : World} (hτ : τ s = σ s) (hR : Rel G τ a w) :
    yielded ops a.tmps g = (match x with | .bool q => some q | _ => none) := by
  obtain ⟨_, F, m, hR⟩ := hR
  have h1 := hR.slots s (by have := hR.nle; omega)
  rw [hτ, hx] at h1
  have h2 := h1.v_eq
  have h3 : s < a.tmps.size := by rw [hR.size]; exact hs
  have h4 : a.tmps[s]? = some x := by
    rw [Array.getElem?_eq_getElem h3, ← h2]
    simp [Array.getD, h3]
  unfold yielded
  rw [hog]
  show (match ((some og).bind (·.dst)).bind (a.tmps[·]?) with | some (.bool b) => some b | _ => none) = _
  rw [show (some og).bind (·.dst) = some s from hos]
  show (match a.tmps[s]? with | some (.bool b) => some b | _ => none) = _
  rw [h4]
  cases x <;> rfl

theorem sem_run {e : Ent} {upd : Upd} {s : Nat} {v : Bool} (hs : σ s = .v (.bool v)) (h : OpSem P ins c σ e upd) : StepSem P ⟨ins, o, some (s, v), c⟩ σ ⟨[s] ++ e.rd, o.toList ++ e.wr⟩ upd := by
  intro G xo ops i op hi hc
  obtain ⟨g, og, hg, hog, hos, hsn, hcp, _⟩ := cgi_some hc
  have hop := h G xo op hcp
  refine ⟨fun p hp => List.mem_append_right _ (hop.wr p hp), fun τ a w K Q hag hR hK => ?_⟩
  unfold wpOp
  rw [hi]
  have hwt : Region.wanted op (yielded ops a.tmps) = true := by
    rw [wanted_some hg, guard_tell hog hos hsn hs (hag s (List.mem_cons_self ..)) hR]
    simp
  simp only [hwt, if_true]
  exact .inl (hop.run τ a w K Q (fun t ht => hag t (List.mem_append_right _ ht)) hR hK)

theorem sem_skip {x : Value} {s : Nat} {v : Bool} (hs : σ s = .v x) (hx : x ≠ .bool v) : StepSem P ⟨ins, o, some (s, v), c⟩ σ ⟨[s], o.toList⟩ (skipUpd o) := by
  intro G xo ops i op hi hc
  obtain ⟨g, og, hg, hog, hos, hsn, hcp, rfl⟩ := cgi_some hc
  refine ⟨fun p hp => ?_, fun τ a w K Q hag hR hK => ?_⟩
  · cases hd : op.dst with
    | none => rw [hd] at hp; cases hp
    | some d =>
      rw [hd] at hp
      obtain rfl := List.mem_singleton.1 hp
      exact List.mem_singleton.2 rfl
  · unfold wpOp
    rw [hi]
    have hwt : Region.wanted op (yielded ops a.tmps) = false := by
      rw [wanted_some hg, guard_tell hog hos hsn hs (hag s (List.mem_cons_self ..)) hR]
      cases x <;> first | rfl | skip
      rename_i q
      cases q <;> cases v <;> first | rfl | exact absurd rfl hx
    simp only [hwt, Bool.false_eq_true, if_false]
    refine hK _ _ ?_
    cases hd : op.dst with
    | none => exact hR
    | some d =>
      obtain ⟨hdf, F, m, hR⟩ := hR
      exact ⟨hdf, F, m, hR.slot (copc_dst hcp d hd) (.v m undef)⟩

/-- One step of a walk, found by its goal. -/
class Stp (q : outParam Prop) (p : Prop) : Prop where
  go : q → p
/-- A walk that parts. -/
class Spl (q1 e1 n1 q2 e2 n2 : outParam Prop) (p : Prop) : Prop where
  go : (q1 → e1 → n1) → (q2 → e2 → n2) → p
theorem st_nil0 (h : N σ) : evG P B [] σ none N := ⟨trivial, h⟩
instance i_st_nil0 : Stp (N σ) (evG P B [] σ none N) := ⟨st_nil0⟩
theorem st_nil {a : List Ent} (ho : okPairs B 0 a.reverse = true) (h : N σ) : evG P B [] σ (some a) N := ⟨ho, h⟩
theorem st_one (h : evS P B [] [] ins c l σ acc N) : evG P B (⟨ins, o, none, c⟩ :: l) σ acc N := by
  obtain ⟨e, upd, hs, h⟩ := h
  exact ⟨e, upd, sem_none hs, h⟩
instance i_st_one : Stp (evS P B [] [] ins c l σ acc N) (evG P B (⟨ins, o, none, c⟩ :: l) σ acc N) := ⟨st_one⟩
theorem st_guard {s : Nat} {v : Bool} (h : evQ P B (hold (σ s)) s v ins c o l σ acc N) : evG P B (⟨ins, o, some (s, v), c⟩ :: l) σ acc N := by
  unfold hold evQ at h
  have run : ∀ q, σ s = .v (.bool q) → q = v → evS P B [s] o.toList ins c l σ acc N → evG P B (⟨ins, o, some (s, v), c⟩ :: l) σ acc N := by
    rintro q hq rfl ⟨e, upd, hs, h⟩
    exact ⟨_, upd, sem_run hq hs, h⟩
  have skip : ∀ x, σ s = .v x → x ≠ .bool v → evG P B l (hold (Env.put (skipUpd o) σ)) (hold (push ⟨[s], o.toList⟩ acc)) N → evG P B (⟨ins, o, some (s, v), c⟩ :: l) σ acc N := fun x hx hne h => ⟨_, _, sem_skip hx hne, h⟩
  cases hs : σ s with
  | v x =>
    rw [hs] at h
    cases x with
    | bool q =>
      by_cases hq : q = v
      · exact run q hs hq (h.1 hq)
      · exact skip _ hs (fun e => hq (by injection e)) (h.2 (by cases q <;> cases v <;> first | rfl | exact absurd rfl hq))
    | _ => exact skip _ hs (fun e => by cases e) h
  | _ => rw [hs] at h; exact h.elim
instance i_st_guard {s : Nat} {v : Bool} : Stp (evQ P B (hold (σ s)) s v ins c o l σ acc N) (evG P B (⟨ins, o, some (s, v), c⟩ :: l) σ acc N) := ⟨st_guard⟩
theorem q_run {s : Nat} (v : Bool) (h : evS P B [s] o.toList ins c l σ acc N) : evQ P B (.v (.bool v)) s v ins c o l σ acc N := ⟨fun _ => h, (fun e => by cases v <;> cases e)⟩
instance i_q_run {s : Nat} {v : Bool} : Stp (evS P B [s] o.toList ins c l σ acc N) (evQ P B (.v (.bool v)) s v ins c o l σ acc N) := ⟨q_run _⟩
theorem q_tf {s : Nat} (h : evG P B l (hold (Env.put (skipUpd o) σ)) (hold (push ⟨[s], o.toList⟩ acc)) N) : evQ P B (.v (.bool true)) s false ins c o l σ acc N := ⟨(fun e => by cases e), fun _ => h⟩
instance i_q_tf {s : Nat} : Stp (evG P B l (hold (Env.put (skipUpd o) σ)) (hold (push ⟨[s], o.toList⟩ acc)) N) (evQ P B (.v (.bool true)) s false ins c o l σ acc N) := ⟨q_tf⟩
theorem q_ft {s : Nat} (h : evG P B l (hold (Env.put (skipUpd o) σ)) (hold (push ⟨[s], o.toList⟩ acc)) N) : evQ P B (.v (.bool false)) s true ins c o l σ acc N := ⟨(fun e => by cases e), fun _ => h⟩
instance i_q_ft {s : Nat} : Stp (evG P B l (hold (Env.put (skipUpd o) σ)) (hold (push ⟨[s], o.toList⟩ acc)) N) (evQ P B (.v (.bool false)) s true ins c o l σ acc N) := ⟨q_ft⟩
theorem q_undef {s : Nat} {v : Bool} (h : evG P B l (hold (Env.put (skipUpd o) σ)) (hold (push ⟨[s], o.toList⟩ acc)) N) : evQ P B (.v undef) s v ins c o l σ acc N := h
instance i_q_undef {s : Nat} {v : Bool} : Stp (evG P B l (hold (Env.put (skipUpd o) σ)) (hold (push ⟨[s], o.toList⟩ acc)) N) (evQ P B (.v undef) s v ins c o l σ acc N) := ⟨q_undef⟩
theorem q_split {s : Nat} {q v : Bool} (h1 : q = v → evS P B [s] o.toList ins c l σ acc N) (h2 : (q = !v) → evG P B l (hold (Env.put (skipUpd o) σ)) (hold (push ⟨[s], o.toList⟩ acc)) N) : evQ P B (.v (.bool q)) s v ins c o l σ acc N := ⟨h1, h2⟩

theorem q_splitPt {s : Nat} {p : Prop} [Decidable p] (h1 : decide p = true → p → evS P B [s] o.toList ins c l σ acc N) (h2 : decide p = false → ¬ p → evG P B l (hold (Env.put (skipUpd o) σ)) (hold (push ⟨[s], o.toList⟩ acc)) N) :
    evQ P B (.v (.bool (decide p))) s true ins c o l σ acc N := ⟨fun h => h1 h (of_decide_eq_true h), fun h => h2 h (of_decide_eq_false h)⟩
instance i_q_splitPt {s : Nat} {p : Prop} [Decidable p] : Spl (decide p = true) (p) (evS P B [s] o.toList ins c l σ acc N) (decide p = false) (¬ p) (evG P B l (hold (Env.put (skipUpd o) σ)) (hold (push ⟨[s], o.toList⟩ acc)) N) (evQ P B (.v (.bool (decide p))) s true ins c o l σ acc N) := ⟨q_splitPt⟩
theorem q_splitPf {s : Nat} {p : Prop} [Decidable p] (h1 : decide p = false → ¬ p → evS P B [s] o.toList ins c l σ acc N) (h2 : decide p = true → p → evG P B l (hold (Env.put (skipUpd o) σ)) (hold (push ⟨[s], o.toList⟩ acc)) N) :
    evQ P B (.v (.bool (decide p))) s false ins c o l σ acc N := ⟨fun h => h1 h (of_decide_eq_false h), fun h => h2 h (of_decide_eq_true h)⟩
instance i_q_splitPf {s : Nat} {p : Prop} [Decidable p] : Spl (decide p = false) (¬ p) (evS P B [s] o.toList ins c l σ acc N) (decide p = true) (p) (evG P B l (hold (Env.put (skipUpd o) σ)) (hold (push ⟨[s], o.toList⟩ acc)) N) (evQ P B (.v (.bool (decide p))) s false ins c o l σ acc N) := ⟨q_splitPf⟩
theorem q_splitEt {s : Nat} {x y : Int} (h1 : (x == y) = true → x = y → evS P B [s] o.toList ins c l σ acc N) (h2 : (x == y) = false → ¬ x = y → evG P B l (hold (Env.put (skipUpd o) σ)) (hold (push ⟨[s], o.toList⟩ acc)) N) :
    evQ P B (.v (.bool (x == y))) s true ins c o l σ acc N := ⟨fun h => h1 h (by simpa using h), fun h => h2 h (by simpa using h)⟩
instance i_q_splitEt {s : Nat} {x y : Int} : Spl ((x == y) = true) (x = y) (evS P B [s] o.toList ins c l σ acc N) ((x == y) = false) (¬ x = y) (evG P B l (hold (Env.put (skipUpd o) σ)) (hold (push ⟨[s], o.toList⟩ acc)) N) (evQ P B (.v (.bool (x == y))) s true ins c o l σ acc N) := ⟨q_splitEt⟩
theorem q_splitEf {s : Nat} {x y : Int} (h1 : (x == y) = false → ¬ x = y → evS P B [s] o.toList ins c l σ acc N) (h2 : (x == y) = true → x = y → evG P B l (hold (Env.put (skipUpd o) σ)) (hold (push ⟨[s], o.toList⟩ acc)) N) :
    evQ P B (.v (.bool (x == y))) s false ins c o l σ acc N := ⟨fun h => h1 h (by simpa using h), fun h => h2 h (by simpa using h)⟩
instance i_q_splitEf {s : Nat} {x y : Int} : Spl ((x == y) = false) (¬ x = y) (evS P B [s] o.toList ins c l σ acc N) ((x == y) = true) (x = y) (evG P B l (hold (Env.put (skipUpd o) σ)) (hold (push ⟨[s], o.toList⟩ acc)) N) (evQ P B (.v (.bool (x == y))) s false ins c o l σ acc N) := ⟨q_splitEf⟩
theorem q_splitNt {s : Nat} {x y : Int} (h1 : (x != y) = true → ¬ x = y → evS P B [s] o.toList ins c l σ acc N) (h2 : (x != y) = false → x = y → evG P B l (hold (Env.put (skipUpd o) σ)) (hold (push ⟨[s], o.toList⟩ acc)) N) :
    evQ P B (.v (.bool (x != y))) s true ins c o l σ acc N := ⟨fun h => h1 h (by simpa using h), fun h => h2 h (by simpa using h)⟩
instance i_q_splitNt {s : Nat} {x y : Int} : Spl ((x != y) = true) (¬ x = y) (evS P B [s] o.toList ins c l σ acc N) ((x != y) = false) (x = y) (evG P B l (hold (Env.put (skipUpd o) σ)) (hold (push ⟨[s], o.toList⟩ acc)) N) (evQ P B (.v (.bool (x != y))) s true ins c o l σ acc N) := ⟨q_splitNt⟩
theorem q_splitNf {s : Nat} {x y : Int} (h1 : (x != y) = false → x = y → evS P B [s] o.toList ins c l σ acc N) (h2 : (x != y) = true → ¬ x = y → evG P B l (hold (Env.put (skipUpd o) σ)) (hold (push ⟨[s], o.toList⟩ acc)) N) :
    evQ P B (.v (.bool (x != y))) s false ins c o l σ acc N := ⟨fun h => h1 h (by simpa using h), fun h => h2 h (by simpa using h)⟩
instance i_q_splitNf {s : Nat} {x y : Int} : Spl ((x != y) = false) (x = y) (evS P B [s] o.toList ins c l σ acc N) ((x != y) = true) (¬ x = y) (evG P B l (hold (Env.put (skipUpd o) σ)) (hold (push ⟨[s], o.toList⟩ acc)) N) (evQ P B (.v (.bool (x != y))) s false ins c o l σ acc N) := ⟨q_splitNf⟩
theorem s_op (hok : hold (ins.ok σ)) (h : evG P B l (hold (Env.put (ins.upd σ) σ)) (hold (push ⟨rd ++ (ins.ent σ).rd, wr ++ (ins.ent σ).wr⟩ acc)) N) : evS P B rd wr ins false l σ acc N :=
  ⟨_, _, fun _ _ _ hc => cop_ok (copc_op hc) (In.ok_okP hok), h⟩
/-- A question whether a bound method is nil, by what the slot holds. -/
def evNil (P : Program) (B : List Nat) (x : D) (d s : Nat) (rd wr : List Nat) (l : List GI) (σ : Env) (acc : Option (List Ent)) (N : Env → Prop) : Prop :=
  match x with
  | .bnd t name e => NilAt P t name e ∧ evG P B l (hold (Env.put [(d, .bnd t name e)] σ)) (hold (push ⟨rd ++ [s], wr ++ [d]⟩ acc)) N
  | _ => False
theorem s_nilb {d s : Nat} (h : evNil P B (hold (σ s)) d s rd wr l σ acc N) : evS P B rd wr (.nilc d s) false l σ acc N := by
  unfold hold at h
  cases hv : σ s with
  | bnd t name e =>
    rw [hv] at h
    refine ⟨In.ent σ (.nilc d s), [(d, .bnd t name e)], fun _ _ _ hc => ?_, h.2⟩
    have := cop_ok (σ := σ) (copc_op hc) (Or.inr ⟨t, name, e, hv, h.1⟩)
    simp only [In.upd] at this
    rw [hv] at this
    exact this
  | _ => rw [hv] at h; exact h.elim
theorem v_nil {d s : Nat} {t : TypeId} {name : String} {e : D} (hn : NilFree P t name) (h : evG P B l (hold (Env.put [(d, .bnd t name e)] σ)) (hold (push ⟨rd ++ [s], wr ++ [d]⟩ acc)) N) : evNil P B (.bnd t name e) d s rd wr l σ acc N := ⟨hn.at e, h⟩
theorem v_nilP {d s : Nat} {t : TypeId} {name : String} {e : D} (hn : NilAt P t name e) (h : evG P B l (hold (Env.put [(d, .bnd t name e)] σ)) (hold (push ⟨rd ++ [s], wr ++ [d]⟩ acc)) N) : evNil P B (.bnd t name e) d s rd wr l σ acc N := ⟨hn, h⟩
/-- The walk stands still ahead of a question whether something is nil. -/
theorem s_nil (h : evS P B rd wr ins false l σ acc N) (_ : ∃ d s, ins = .nilc d s) : evS P B rd wr ins false l σ acc N := h
theorem s_call {d f : Nat} {xs : List Opd} (h : evC P B f (hold (xs.map (Opd.val σ))) (hold (xs.flatMap Opd.rd)) d rd wr l σ acc N) : evS P B rd wr (.call d f xs) true l σ acc N := by
  obtain ⟨H, es, H', r, R, hdo, hc, hds, h⟩ := h
  refine ⟨callE (xs.flatMap Opd.rd) R d, callU R H' d r, fun G xo o hcp => ?_, h⟩
  obtain ⟨d', hdst, hd, hcc⟩ := copc_call hcp
  obtain ⟨rfl, hf, ops, ts, ho, ha⟩ := ccall_call hcc
  exact in_call ho hf ha hdst hd hdo hc hds
instance i_s_call {d f : Nat} {xs : List Opd} : Stp (evC P B f (hold (xs.map (Opd.val σ))) (hold (xs.flatMap Opd.rd)) d rd wr l σ acc N) (evS P B rd wr (.call d f xs) true l σ acc N) := ⟨s_call⟩
theorem s_cal {d : Nat} {x : Opd} {xs : List Opd} (h : evV P B (hold (x.val σ)) (hold (xs.map (Opd.val σ))) (hold (x.rd ++ xs.flatMap Opd.rd)) d rd wr l σ acc N) : evS P B rd wr (.cal d x xs) true l σ acc N := by
  unfold hold evV at h
  cases hx : x.val σ with
  | fn f cs =>
    rw [hx] at h
    obtain ⟨hf, H, es, H', r, R, hdo, hc, hds, h⟩ := h
    refine ⟨callE (x.rd ++ xs.flatMap Opd.rd) R d, callU R H' d r, fun G xo o hcp => ?_, h⟩
    obtain ⟨d', hdst, hd, hcc⟩ := copc_call hcp
    obtain ⟨rfl, y, ops, ts, ho, hy, ha⟩ := ccall_cal hcc
    exact in_cal ho hy ha hdst hd hx hf hdo hc hds
  | bnd t name e =>
    rw [hx] at h
    obtain ⟨f, e', hm, H, es, H', r, R, hdo, hc, hds, h⟩ := h
    refine ⟨callE (x.rd ++ xs.flatMap Opd.rd) R d, callU R H' d r, fun G xo o hcp => ?_, h⟩
    obtain ⟨d', hdst, hd, hcc⟩ := copc_call hcp
    obtain ⟨rfl, y, ops, ts, ho, hy, ha⟩ := ccall_cal hcc
    exact in_calb ho hy ha hdst hd hx hm hdo hc hds
  | _ => rw [hx] at h; exact h.elim
instance i_s_cal {d : Nat} {x : Opd} {xs : List Opd} : Stp (evV P B (hold (x.val σ)) (hold (xs.map (Opd.val σ))) (hold (x.rd ++ xs.flatMap Opd.rd)) d rd wr l σ acc N) (evS P B rd wr (.cal d x xs) true l σ acc N) := ⟨s_cal⟩
theorem s_inv {d : Nat} {x : Opd} {name : String} {xs : List Opd} (h : evI P B (hold (x.val σ)) name (hold (xs.map (Opd.val σ))) (hold (x.rd ++ xs.flatMap Opd.rd)) d rd wr l σ acc N) : evS P B rd wr (.inv d x name xs) true l σ acc N := by
  unfold hold evI at h
  cases hx : x.val σ with
  | ifc t e =>
    rw [hx] at h
    obtain ⟨f, e', hm, H, es, H', r, R, hdo, hc, hds, h⟩ := h
    refine ⟨callE (x.rd ++ xs.flatMap Opd.rd) R d, callU R H' d r, fun G xo o hcp => ?_, h⟩
    obtain ⟨d', hdst, hd, hcc⟩ := copc_call hcp
    obtain ⟨rfl, y, ops, ts, ho, hy, ha⟩ := ccall_inv hcc
    exact in_inv ho hy ha hdst hd hx hm hdo hc hds
  | _ => rw [hx] at h; exact h.elim
instance i_s_inv {d : Nat} {x : Opd} {name : String} {xs : List Opd} : Stp (evI P B (hold (x.val σ)) name (hold (xs.map (Opd.val σ))) (hold (x.rd ++ xs.flatMap Opd.rd)) d rd wr l σ acc N) (evS P B rd wr (.inv d x name xs) true l σ acc N) := ⟨s_inv⟩

/-- What is known is put otherwise ahead of a step. -/
def PreOK (σ : Env) (fr : Upd) (r w : List Nat) : Prop := (∀ p, p ∈ fr → p.1 ∈ w) ∧ ∀ (G : Ctx) (τ : Env) (a : Act) (x : World), (∀ t, t ∈ r → τ t = σ t) → Rel G τ a x → Rel G (Env.put fr τ) a x
theorem s_pre {fr : Upd} {r1 w1 : List Nat} (hp : PreOK σ fr r1 w1) (h : evS P B (rd ++ r1) (wr ++ w1) ins c l (hold (Env.put fr σ)) acc N) : evS P B rd wr ins c l σ acc N := by
  obtain ⟨e, upd, hs, h⟩ := h
  refine ⟨⟨r1 ++ e.rd, w1 ++ e.wr⟩, fr ++ upd, fun G xo o hcp => ?_, ?_⟩
  · have hop := hs G xo o hcp
    refine ⟨fun p hpp => ?_, fun τ a w K Q hag hR hK => ?_⟩
    · rcases List.mem_append.1 hpp with hpp | hpp
      · exact List.mem_append_left _ (hp.1 p hpp)
      · exact List.mem_append_right _ (hop.wr p hpp)
    · refine hop.run (Env.put fr τ) a w K Q (fun t ht => Env.put_same _ _ _ _ (hag t (List.mem_append_right _ ht))) (hp.2 G τ a w (fun t ht => hag t (List.mem_append_left _ ht)) hR) (fun a' w' hR' => hK a' w' ?_)
      rw [Env.put_append]
      exact hR'
  · rw [Env.put_append]
    simpa only [List.append_assoc, hold_eq] using h

/-- A slot's row stands still from now on. -/
theorem pre_frz {t g s : Nat} {es : List D} (ht : t < nb) (hg : nb ≤ g) (hr : σ g = .row s es) (hp : D.purL es = true) : PreOK σ (frzU σ t g s es) [t, g] [g, t] := by
  refine ⟨fun p hpp => ?_, fun G τ a x hag hR => ?_⟩
  · simp only [frzU, List.mem_cons, List.not_mem_nil, or_false] at hpp
    rcases hpp with rfl | rfl
    · exact List.mem_cons_self ..
    · exact List.mem_cons_of_mem _ (List.mem_cons_self ..)
  · have h1 := hag t (List.mem_cons_self ..)
    have h2 := hag g (List.mem_cons_of_mem _ (List.mem_cons_self ..))
    have := hR.frz (t := t) ht hg (h2.trans hr) hp
    rw [show frzU τ t g s es = frzU σ t g s es by unfold frzU; rw [h1]] at this
    exact this
/-- An empty slice, of whatever kind. -/
theorem pre_nul {t : Nat} (ht : t < nb) (s : Nat) (hr : σ t = .nul) : PreOK σ [(t, .sl s [])] [t] [t] := by
  refine ⟨fun p hpp => by obtain rfl := List.mem_singleton.1 hpp; exact List.mem_singleton.2 rfl, fun G τ a x hag hR => ?_⟩
  obtain ⟨hd, F, m, h⟩ := hR
  have h1 := h.slots t ht
  rw [hag t (List.mem_singleton.2 rfl), hr] at h1
  refine ⟨hd, F, m, h.recast ht ?_⟩
  generalize a.tmps.getD t undef = y at h1
  cases h1 with
  | nul _ a => exact .sl0 m s a 0

theorem ren_pure (R : List Nat) : ∀ (d : D), d.pur = true → d.ren R = d
  | .any, _ => rfl
  | .v _, _ => rfl
  | .sl _ _, _ => rfl
  | .nul, _ => rfl
  | .agg cs, h => by rw [D.ren, renL_pure R cs h]
  | .tup cs, h => by rw [D.ren, renL_pure R cs h]
  | .ifc t d, h => by rw [D.ren, ren_pure R d h]
  | .bnd t name d, h => by rw [D.ren, ren_pure R d h]
  | .fn f cs, h => by rw [D.ren, renL_pure R cs h]
  | .ptr _, _ => rfl
  | .ref _ _, h => by cases h
  | .own _ _ _, h => by cases h
  | .eref _ _ _ _, h => by cases h
  | .obj _, h => by cases h
  | .row _ _, h => by cases h
  | .free, h => by cases h
where renL_pure (R : List Nat) : ∀ (l : List D), D.purL l = true → D.renL R l = l
  | [], _ => rfl
  | d :: l, h => by
    rw [D.purL, Bool.and_eq_true] at h
    rw [D.renL, ren_pure R d h.1, renL_pure R l h.2]

/-- A call without blocks, and without names in what it says. -/
theorem c_does {f : FuncId} {ds : List D} {rds : List Nat} {d : Nat} {r : D} (hdo : Does P f [] ds r []) (hp : D.purL (r :: ds) = true) (h : evG P B l (hold (σ.set d r)) (hold (push ⟨rd ++ (rds ++ []), wr ++ ([] ++ [d])⟩ acc)) N) : evC P B f ds rds d rd wr l σ acc N := by
  rw [D.purL, Bool.and_eq_true] at hp
  refine ⟨[], ds, [], r, [], hdo, ⟨rfl, Nat.le_refl _, List.nodup_nil, (fun g hg => by cases hg), (fun i d g h => by simp at h), (fun i g _ h => by simp at h)⟩, ?_, ?_⟩
  · rw [← D.renL_map, ren_pure.renL_pure _ _ hp.2]
  · show evG P B l (Env.put [(d, r.ren [])] σ) _ N
    rw [ren_pure _ _ hp.1]
    exact h
theorem c_doesE {f : FuncId} {ds es : List D} {rds : List Nat} {d : Nat} {r : D} (hdo : Does P f [] es r []) (he : ds = hold es) (hp : hold (D.purL (r :: ds)) = true) (h : evG P B l (hold (σ.set d r)) (hold (push ⟨rd ++ (rds ++ []), wr ++ ([] ++ [d])⟩ acc)) N) : evC P B f ds rds d rd wr l σ acc N := by
  have he : ds = es := he
  subst he
  exact c_does hdo hp h
/-- A call in general. -/
theorem c_doesR {f : FuncId} {ds H es H' : List D} {rds : List Nat} {d : Nat} {r : D} (R : List Nat) (hdo : Does P f H es r H') (hc : CallOK σ R H H') (hds : ds = hold (es.map (D.ren R))) (h : evG P B l (hold (Env.put (callU R H' d r) σ)) (hold (push ⟨rd ++ (rds ++ R), wr ++ (R ++ [d])⟩ acc)) N) :
    evC P B f ds rds d rd wr l σ acc N := ⟨H, es, H', r, R, hdo, hc, hds, h⟩
def oldOk (σ : Env) (R : List Nat) : List Nat → List D → Prop
  | _, [] => True
  | [], _ :: _ => False
  | g :: l, d :: ds => (d.isBlk = true ∧ σ g = d.ren R) ∧ oldOk σ R l ds
def newOk (σ : Env) : List Nat → Prop
  | [] => True
  | g :: l => σ g = .free ∧ newOk σ l
theorem callOK_of {R : List Nat} {H H' : List D} (hl : R.length = H'.length) (hle : H.length ≤ H'.length) (hR : canB 0 R = true) (ho : hold (oldOk σ R R H)) (hn : hold (newOk σ (R.drop H.length))) : CallOK σ R H H' := by
  have ho : oldOk σ R R H := ho
  have hn : newOk σ (R.drop H.length) := hn
  have hcan := can_of hR
  refine ⟨hl, hle, hcan.nd, hcan.ge, ?_, ?_⟩
  · clear hl hle hR hn hcan
    have : ∀ (L : List Nat) (H : List D), oldOk σ R L H → ∀ (i : Nat) (d : D) (g : Nat), H[i]? = some d → L[i]? = some g → d.isBlk = true ∧ σ g = d.ren R := by
      intro L
      induction L with
      | nil => intro H h i d g _ hg; simp at hg
      | cons g0 L ih =>
        intro H h i d g hd hg
        cases H with
        | nil => simp at hd
        | cons d0 H =>
          cases i with
          | zero =>
            obtain rfl : d0 = d := by simpa using hd
            obtain rfl : g0 = g := by simpa using hg
            exact h.1
          | succ i => exact ih H h.2 i d g (by simpa using hd) (by simpa using hg)
    exact this R H ho
  · intro i g hi hg
    have h1 : (R.drop H.length)[i - H.length]? = some g := by rw [List.getElem?_drop, show H.length + (i - H.length) = i by omega]; exact hg
    revert h1 hn
    generalize R.drop H.length = L
    intro hn h1
    have : ∀ (L : List Nat), newOk σ L → ∀ (i g : Nat), L[i]? = some g → σ g = .free := by
      intro L
      induction L with
      | nil => intro _ i g h; simp at h
      | cons g0 L ih =>
        intro h i g hg
        cases i with
        | zero => obtain rfl : g0 = g := by simpa using hg
                  exact h.1
        | succ i => exact ih h.2 i g (by simpa using hg)
    exact this L hn _ _ h1
theorem v_fn {ds cs : List D} {f d : Nat} {rds : List Nat} (hf : enters P f = true) (h : evC P B f (ds ++ cs) rds d rd wr l σ acc N) : evV P B (.fn f cs) ds rds d rd wr l σ acc N := ⟨hf, h⟩
theorem v_bnd {ds : List D} {t : TypeId} {e : D} {f d : Nat} {name : String} {rds : List Nat} (hm : methOf P t name = some f) (h : evC P B f (e :: ds) rds d rd wr l σ acc N) : evV P B (.bnd t name e) ds rds d rd wr l σ acc N := ⟨f, e, methAt_of hm e, h⟩
theorem i_meth {ds : List D} {t : TypeId} {e : D} {f d : Nat} {name : String} {rds : List Nat} (hm : methOf P t name = some f) (h : evC P B f (e :: ds) rds d rd wr l σ acc N) : evI P B (.ifc t e) name ds rds d rd wr l σ acc N := ⟨f, e, methAt_of hm e, h⟩
theorem i_methP {ds : List D} {t : TypeId} {e e' : D} {f d : Nat} {name : String} {rds : List Nat} (hm : MethAt P t name e f e') (h : evC P B f (e' :: ds) rds d rd wr l σ acc N) : evI P B (.ifc t e) name ds rds d rd wr l σ acc N := ⟨f, e', hm, h⟩

/-- A region's chain. -/
theorem gis_ok {xo : List Nat} {ops : Array Oper} : ∀ (l : List Oper) (gis : List GI) (i : Nat) (σ : Env) (acc : Option (List Ent)), ops.toList.drop i = l → i ≤ ops.size → cgis P G.n xo ops l = some gis → evG P B gis σ acc N →
    ∃ es : List Entry, Chain P ops G i σ es ∧ N (stOf es (fun _ => true) i σ) ∧ ∀ a, acc = some a → okPairs B 0 (a.reverse ++ es.map (·.1)) = true
  | [], gis, i, σ, acc, hl, hi, h, hev => by
    obtain rfl : [] = gis := by simpa [cgis] using h
    refine ⟨[], ?_, hev.2, fun a ha => ?_⟩
    · show i = ops.size
      have := congrArg List.length hl
      simp at this
      omega
    · subst ha
      simpa using hev.1
  | o :: l, gis, i, σ, acc, hl, hi, h, hev => by
    simp only [cgis, Option.bind_eq_some_iff, Option.some.injEq] at h
    obtain ⟨gi, hgi, m, hm, rfl⟩ := h
    have hlen := congrArg List.length hl
    simp at hlen
    have hoi : ops[i]? = some o := by
      have : (ops.toList.drop i)[0]? = some o := by rw [hl]; rfl
      simpa using this
    have hnext : ops.toList.drop (i + 1) = l := by
      rw [← List.tail_drop, hl]
      rfl
    obtain ⟨e, upd, hst, hev⟩ := hev
    obtain ⟨es, hch, hN, hok⟩ := gis_ok l m (i + 1) _ _ hnext (by omega) hm hev
    refine ⟨(e, upd) :: es, ⟨hst G xo ops i o hoi hgi, hch⟩, hN, fun a ha => ?_⟩
    have := hok (e :: a) (by rw [ha]; rfl)
    simpa using this

end
end
section
open Go.RowKit

inductive DC where
  | skip
  | reg (gis : List GI) (B : Option (List Nat))
  | seq (a b : DC)
  | cond (c : Opd) (a b : DC)
  | block (id : Nat) (c : DC)
  | loop (c : DC)
  | exit (id : Nat)
  | ret
  /-- What is not read: nothing holds of it. -/
  | no

def acc0 : Option (List Nat) → Option (List Ent)
  | some _ => some []
  | none => none

/-- k: how many names were handed over. -/
def dwp (P : Program) (k : Nat) : DC → Env → (Env → Prop) → (Nat → Env → Prop) → (Env → Prop) → Prop
  | .skip, σ, N, _, _ => N σ
  | .reg gis B, σ, N, _, _ => evG P (B.getD []) gis σ (acc0 B) N
  | .seq a b, σ, N, X, R => dwp P k a σ (fun τ => dwp P k b τ N X R) X R
  | .cond c a b, σ, N, X, R => match c.val σ with
    | .v (.bool q) => (q = true → dwp P k a σ N X R) ∧ (q = false → dwp P k b σ N X R)
    | _ => False
  | .block id c, σ, N, X, R => dwp P k c σ N (fun i τ => if i = id then N τ else X i τ) R
  | .loop c, σ, _, X, R => ∃ (ι : Type) (I : ι → Env) (J : ι → Prop) (m : ι → Nat) (i : ι), J i ∧ Wk k σ (I i) ∧ ∀ i, J i → dwp P k c (I i) (fun τ => ∃ j, J j ∧ m j < m i ∧ Wk k τ (I j)) X R
  | .exit id, σ, _, X, _ => X id σ
  | .ret, σ, _, _, R => R σ
  | .no, _, _, _, _ => False

def cdc (P : Program) (N : Nat) (xo : List Nat) : Code → Option DC
  | .skip => some .skip
  | .label _ => some .skip
  | .region _ ops draw => some (((cgis P N xo ops ops.toList).bind fun gis => if draw then oif (edgesOk 0 ops.toList) (some (.reg gis (some (clo ops.toList [])))) else some (.reg gis none)).getD .no)
  | .seq a b => (cdc P N xo a).bind fun x => (cdc P N xo b).bind fun y => some (.seq x y)
  | .cond c a b => (opd c).bind fun C => (cdc P N xo a).bind fun x => (cdc P N xo b).bind fun y => some (.cond C x y)
  | .block id c => (cdc P N xo c).bind fun x => some (.block id x)
  | .loop c => (cdc P N xo c).bind fun x => some (.loop x)
  | .scope c => cdc P N xo c
  | .exit id => some (.exit id)
  | .ret => some .ret
  | _ => some .no

section
variable {P : Program} {G : Ctx}

theorem getD_falses (n k : Nat) : (Array.replicate n false).getD k false = false := by
  simp only [Array.getD_eq_getD_getElem?, Array.getElem?_replicate]
  split <;> rfl

def post (G : Ctx) (N : Env → Prop) (X : Nat → Env → Prop) (R : Env → Prop) : Exit → Act → World → Prop
  | .normal, a, w => ∃ τ, Rel G τ a w ∧ N τ
  | .exit id, a, w => ∃ τ, Rel G τ a w ∧ X id τ
  | .ret, a, w => ∃ τ, Rel G τ a w ∧ R τ
  | _, _, _ => False

/-- In the order of the text. -/
theorem line_ok {ops : Array Oper} {Q : Exit → Act → World → Prop} : ∀ (es : List Entry) (i : Nat) (σ : Env) (a : Act) (w : World), Chain P ops G i σ es → Rel G σ a w →
    (∀ a' w', Rel G (stOf es (fun _ => true) i σ) a' w' → Q .normal a' w') → wpOps P ops Q (List.range' i (ops.size - i)) a w
  | [], i, σ, a, w, hc, hR, hQ => by
    have hi : i = ops.size := hc
    rw [hi, Nat.sub_self]
    exact hQ a w hR
  | e :: es, i, σ, a, w, hc, hR, hQ => by
    have hsz := hc.size
    rw [List.length_cons] at hsz
    rw [show ops.size - i = (ops.size - (i + 1)) + 1 by omega, List.range'_succ, wpOps_cons]
    exact hc.1.run σ a w _ Q (fun t _ => rfl) hR (fun a' w' hR' => line_ok es (i + 1) _ a' w' hc.2 hR' hQ)

theorem dwp_ok {xo : List Nat} (hm : P.follows .mixedOrders = true) (c : Code) : ∀ (dc : DC) (σ : Env) (a : Act) (w : World) (N : Env → Prop) (X : Nat → Env → Prop) (R : Env → Prop),
    cdc P G.n xo c = some dc → Rel G σ a w → dwp P G.k dc σ N X R → c.wp P (post G N X R) a w := by
  induction c with
  | skip => intro dc σ a w N X R h hR hd
            obtain rfl : DC.skip = dc := by simpa [cdc] using h
            exact wp_skip ⟨σ, hR, hd⟩
  | label l => intro dc σ a w N X R h hR hd
               obtain rfl : DC.skip = dc := by simpa [cdc] using h
               exact wp_label ⟨σ, hR, hd⟩
  | region id ops draw =>
    intro dc σ a w N X R h0 hR hd
    have h : ((cgis P G.n xo ops ops.toList).bind fun gis => if draw then oif (edgesOk 0 ops.toList) (some (.reg gis (some (clo ops.toList [])))) else some (.reg gis none)) = some dc := by
      simp only [cdc, Option.some.injEq] at h0
      generalize ((cgis P G.n xo ops ops.toList).bind fun gis => if draw then oif (edgesOk 0 ops.toList) (some (DC.reg gis (some (clo ops.toList [])))) else some (.reg gis none)) = y at h0
      cases y with
      | some d => exact congrArg some h0
      | none => obtain rfl : DC.no = dc := h0; exact hd.elim
    clear h0
    simp only [Option.bind_eq_some_iff] at h
    obtain ⟨gis, hg, h⟩ := h
    have hev : ∃ B, evG P (B.getD []) gis σ (acc0 B) N ∧ (draw = true → edgesOk 0 ops.toList = true ∧ B = some (clo ops.toList [])) := by
      cases draw with
      | true =>
        simp only [if_true, oif_some, Option.some.injEq] at h
        obtain ⟨he, rfl⟩ := h
        exact ⟨some (clo ops.toList []), hd, fun _ => ⟨he, rfl⟩⟩
      | false =>
        simp only [Bool.false_eq_true, if_false, Option.some.injEq] at h
        subst h
        exact ⟨none, hd, (fun e => by cases e)⟩
    obtain ⟨B, hev, hB⟩ := hev
    obtain ⟨es, hch, hN, hok⟩ := gis_ok (G := G) ops.toList gis 0 σ _ (by simp) (by omega) hg hev
    have fin : ∀ a' w', Rel G (stOf es (fun _ => true) 0 σ) a' w' → post G N X R .normal a' w' := fun a' w' hR' => ⟨_, hR', hN⟩
    cases draw with
    | true =>
      obtain ⟨he, rfl⟩ := hB rfl
      refine wp_region_any hm ?_
      have h0 : (stOf es (fun k => (Array.replicate ops.size false).getD k false) 0 σ) = σ := by
        funext t
        exact stOf_still _ _ _ _ _ (fun k p _ _ => getD_falses _ _)
      refine any_of_chain hch (hok [] rfl) he fin ops.size _ a _ (by simp) ?_ (fun k o hk => ?_) (by rw [h0]; exact hR.drew)
      · exact Nat.le_trans List.countP_le_length (by rw [List.length_range]; exact Nat.le_refl _)
      · rw [getD_falses] at hk; cases hk
    | false =>
      refine wp_region ?_
      have := line_ok (Q := post G N X R) es 0 σ a w hch hR fin
      rw [Nat.sub_zero, ← List.range_eq_range'] at this
      exact this
  | seq c d ihc ihd =>
    intro dc σ a w N X R h hR hd
    simp only [cdc, Option.bind_eq_some_iff, Option.some.injEq] at h
    obtain ⟨x, hx, y, hy, rfl⟩ := h
    refine wp_seq (wp_mono (ihc x σ a w _ X R hx hR hd) ?_)
    intro e a' w' hp
    cases e with
    | normal =>
      obtain ⟨τ, hR', hd'⟩ := hp
      exact ihd y τ a' w' N X R hy hR' hd'
    | _ => exact hp
  | cond t c d ihc ihd =>
    intro dc σ a w N X R h hR hd
    simp only [cdc, Option.bind_eq_some_iff, Option.some.injEq] at h
    obtain ⟨C, hC, x, hx, y, hy, rfl⟩ := h
    simp only [dwp] at hd
    cases hv : C.val σ with
    | v b =>
      rw [hv] at hd
      cases b with
      | bool q =>
        obtain ⟨_, F, m, hRF⟩ := id hR
        have he := opd_v hRF hC (fun _ _ => rfl) hv
        refine wp_cond_split he (fun hq => ihc x σ a w N X R hx hR (hd.1 hq)) (fun hq => ihd y σ a w N X R hy hR (hd.2 hq))
      | _ => exact hd.elim
    | _ => rw [hv] at hd; exact hd.elim
  | block id c ih =>
    intro dc σ a w N X R h hR hd
    simp only [cdc, Option.bind_eq_some_iff, Option.some.injEq] at h
    obtain ⟨x, hx, rfl⟩ := h
    refine wp_block (wp_mono (ih x σ a w _ _ R hx hR hd) ?_)
    intro e a' w' hp
    cases e with
    | exit i =>
      obtain ⟨τ, hR', hd'⟩ := hp
      simp only [Exit.inBlock]
      split
      · rename_i e; rw [if_pos e] at hd'; exact ⟨τ, hR', hd'⟩
      · rename_i e; rw [if_neg e] at hd'; exact ⟨τ, hR', hd'⟩
    | _ => exact hp
  | loop c ih =>
    intro dc σ a w N X R h hR hd
    simp only [cdc, Option.bind_eq_some_iff, Option.some.injEq] at h
    obtain ⟨x, hx, rfl⟩ := h
    obtain ⟨ι, I, J, m, i, hJ, hle, hround⟩ := hd
    have key : ∀ (n : Nat) (i : ι) (a : Act) (w : World), m i < n → J i → Rel G (I i) a w → Code.rounds P c (post G N X R) n a w := by
      intro n
      induction n with
      | zero => intro i a w h; omega
      | succ n ihn =>
        intro i a w hlt hJ hR
        rw [rounds_succ]
        refine wp_mono (ih x (I i) a w _ X R hx hR (hround i hJ)) ?_
        intro e a' w' hp
        cases e with
        | normal =>
          obtain ⟨τ, hR', j, hJ', hmj, hle'⟩ := hp
          exact ihn j a' w' (by omega) hJ' (hle' G a' w' rfl hR')
        | _ => exact hp
    exact wp_loop_rounds (m i + 1) (key _ i a w (by omega) hJ (hle G a w rfl hR))
  | exit id => intro dc σ a w N X R h hR hd
               obtain rfl : DC.exit id = dc := by simpa [cdc] using h
               exact wp_exit ⟨σ, hR, hd⟩
  | scope c ih =>
    intro dc σ a w N X R h hR hd
    refine wp_scope_straight (wp_mono (ih dc σ a w N X R h hR hd) ?_)
    intro e a' w' hp
    cases e with
    | goto l => exact hp
    | _ => exact hp
  | ret => intro dc σ a w N X R h hR hd
           obtain rfl : DC.ret = dc := by simpa [cdc] using h
           exact wp_ret ⟨σ, hR, hd⟩
  | _ => intro dc σ a w N X R h hR hd
         obtain rfl : DC.no = dc := by simpa [cdc] using h
         exact hd.elim

/-- One result: a slot's datum, or what lies in a cell of one's own. -/
inductive Res where
  | tmp (t : Nat)
  | cell (a : Nat) (n : Option Nat)
def cres (P : Program) : ResultVar → Option Res
  | .tmp t => oif (decide (t < nb)) (some (.tmp t))
  | .cell a T => (szOf P T).bind fun n => oif (decide (a < nb)) (some (.cell a n))
def Res.val (σ : Env) : Res → D
  | .tmp t => σ t
  | .cell a n => D.getC (ptrC σ a) (ptrO σ a) n
def Res.ok (σ : Env) : Res → Prop
  | .tmp _ => True
  | .cell a n => ptrOk σ a ∧ D.getCok (ptrC σ a) (ptrO σ a) n
def resD (σ : Env) : List Res → D
  | [x] => x.val σ
  | l => .tup (l.map (Res.val σ))
def resOk (σ : Env) : List Res → Prop
  | [] => True
  | x :: l => x.ok σ ∧ resOk σ l

/-- How a result is read. -/
def readRes (tm : Array Value) : ResultVar → Sem Value
  | .tmp t => pure (tm.getD t undef)
  | .cell a t => do loadVar t (← asAddr (tm.getD a undef))

theorem resOne_run {σ : Env} {a : Act} {w : World} {F : Cells} {m : Names} (hR : RelF G σ a.tmps w F m) {x : ResultVar} {y : Res} (hx : cres P x = some y) (h : y.ok σ) :
    ∃ v, (readRes a.tmps x).run P w = .ok v w ∧ Fz w F m (y.val σ) v := by
  cases x with
  | tmp t =>
    simp only [cres, oif_some, decide_eq_true_eq, Option.some.injEq] at hx
    obtain ⟨ht, rfl⟩ := hx
    exact ⟨_, rfl, hR.slots t ht⟩
  | cell s T =>
    simp only [cres, Option.bind_eq_some_iff, oif_some, decide_eq_true_eq, Option.some.injEq] at hx
    obtain ⟨n, hsz, hs, rfl⟩ := hx
    obtain ⟨b, q, us, hxe, hc, hu⟩ := ptr_at hR hs (fun _ _ => rfl) h.1
    obtain ⟨v, hv, h1, h2⟩ := getC_val hc h.2
    refine ⟨v, ?_, hv⟩
    have hxe' : a.tmps.getD s undef = .pointer (some ⟨b, q + ptrO σ s, none⟩) := hxe
    cases n with
    | none =>
      have := run_loadVar1 (P := P) hsz w ⟨b, q + ptrO σ s, none⟩ v (hu _ _ (h1 rfl))
      simp [readRes, hxe', asAddr, this]
    | some n =>
      obtain ⟨rfl, hle⟩ := h2 n rfl
      have := run_loadVarN (P := P) hsz w b (q + ptrO σ s) ((us.drop (ptrO σ s)).take n) (by simp; omega) (fun j v hj => by
        rw [List.getElem?_take] at hj
        split at hj
        · rw [List.getElem?_drop] at hj
          rw [Nat.add_assoc]
          exact hu _ v hj
        · cases hj)
      simp [readRes, hxe', asAddr, this]

theorem resAll_run {σ : Env} {a : Act} {w : World} {F : Cells} {m : Names} (hR : RelF G σ a.tmps w F m) : ∀ (rs : List ResultVar) (ys : List Res), rs.mapM (cres P) = some ys → resOk σ ys →
    ∃ vs, (rs.mapM (readRes a.tmps)).run P w = .ok vs w ∧ vs.length = ys.length ∧ ys.length = rs.length ∧ ∀ (i : Nat) (d : D) (v : Value), (ys.map (Res.val σ))[i]? = some d → vs[i]? = some v → Fz w F m d v
  | [], ys, hy, h => by
    obtain rfl : [] = ys := by simpa using hy
    exact ⟨[], rfl, rfl, rfl, fun i d v hd => by simp at hd⟩
  | x :: l, ys, hy, h => by
    simp only [List.mapM_cons, Option.bind_eq_bind, Option.pure_def, Option.bind_eq_some_iff, Option.some.injEq] at hy
    obtain ⟨y, hx, zs, hl, rfl⟩ := hy
    obtain ⟨v, hv, hf⟩ := resOne_run hR hx h.1
    obtain ⟨vs, hrun, h1, h2, h3⟩ := resAll_run hR l zs hl h.2
    refine ⟨v :: vs, ?_, by simp [h1], by simp [h2], fun i e u he hu => ?_⟩
    · simp [List.mapM_cons, hv, hrun]
    · cases i with
      | zero =>
        obtain rfl : y.val σ = e := by simpa using he
        obtain rfl : v = u := by simpa using hu
        exact hf
      | succ i => exact h3 i e u (by simpa using he) (by simpa using hu)

theorem results_eq (fn : Func) (tm : Array Value) : results fn tm = (do let vs ← fn.results.mapM (readRes tm); pure (if h : vs.size = 1 then vs[0] else .tuple vs)) := by
  unfold results
  have : (fun x : ResultVar => match x with
    | .tmp t => pure (tm.getD t undef)
    | .cell a t => do loadVar t (← asAddr (tm.getD a undef)) : ResultVar → Sem Value) = readRes tm := by
    funext x
    cases x <;> rfl
  rw [← this]
  rfl

theorem res_run {σ : Env} {a : Act} {w : World} {F : Cells} {m : Names} (hR : RelF G σ a.tmps w F m) (fn : Func) {ys : List Res} (hy : fn.results.toList.mapM (cres P) = some ys) (h : resOk σ ys) :
    ∃ v, (results fn a.tmps).run P w = .ok v w ∧ Fz w F m (resD σ ys) v := by
  rw [results_eq]
  obtain ⟨vs, hrun, h1, h2, h3⟩ := resAll_run hR _ _ hy h
  have harr : (fn.results.mapM (readRes a.tmps)).run P w = .ok vs.toArray w := by
    rw [Array.mapM_eq_mapM_toList]
    simp [hrun]
  have many : ys.length ≠ 1 → ∃ v, (do let vs ← fn.results.mapM (readRes a.tmps); pure (if h : vs.size = 1 then vs[0] else .tuple vs) : Sem Value).run P w = .ok v w ∧ Fz w F m (.tup (ys.map (Res.val σ))) v := by
    intro hne
    refine ⟨.tuple vs.toArray, ?_, .tup m _ vs (by simp [h1]) (fun i d u hd hu => h3 i d u hd hu)⟩
    have hne' : ¬ vs.toArray.size = 1 := by simp [h1]; exact hne
    simp only [Sem.run_bind, harr, Result.andThen_ok, Sem.run_pure, dif_neg hne']
  match ys, h1, h2, h3, many with
  | [], _, _, _, many => exact many (by simp)
  | [y], h1, _, h3, _ =>
    match vs, h1, h3, harr with
    | [v], _, h3, harr =>
      refine ⟨v, ?_, h3 0 _ v rfl rfl⟩
      simp only [Sem.run_bind, harr, Result.andThen_ok, Sem.run_pure]
      rfl
  | _ :: _ :: _, _, _, _, many => exact many (by simp)

/-- A function's slots, code and results. -/
def cfun (P : Program) (xo : List Nat) (f : FuncId) : Option (Nat × DC × List Res) :=
  match P.funcs[f]? with
  | some fn => match fn.body with
    | some c => (cdc P fn.ntmps xo c).bind fun dc => (fn.results.toList.mapM (cres P)).bind fun rs => oif (decide (fn.ntmps ≤ nb)) (some (fn.ntmps, dc, rs))
    | none => none
  | none => none

/-- What one datum says, the other says too. -/
def Sub (d e : D) : Prop := ∀ (w : World) (F : Cells) (m : Names) (x : Value), Fz w F m d x → Fz w F m e x
/-- What a function leaves behind: its result and blocks, under names told by L. -/
structure FinOK (k : Nat) (rs : List Res) (r : D) (H' : List D) (L : List Nat) (τ : Env) : Prop where
  ok : resOk τ rs
  res : Sub (resD τ rs) (r.ren L)
  len : L.length = H'.length
  can : canB k L = true
  blk : ∀ (i : Nat) (d : D) (g : Nat), H'[i]? = some d → L[i]? = some g → d = .any ∨ (d.isBlk = true ∧ τ g = d.ren L)
def Fin (k : Nat) (rs : List Res) (r : D) (H' : List D) (τ : Env) : Prop := ∃ τ' L, Wk k τ τ' ∧ FinOK k rs r H' L τ'

/-- The slots and names at a function's entry. -/
def entL : Nat → List D → Env → Env
  | _, [], σ => σ
  | i, d :: l, σ => (entL (i + 1) l σ).set i d
def ent (H ds : List D) : Env := entL 0 ds (entL nb H (base 0))
theorem entL_at : ∀ (ds : List D) (i t : Nat) (σ : Env), entL i ds σ t = if i ≤ t ∧ t < i + ds.length then ds.getD (t - i) .any else σ t
  | [], i, t, σ => by rw [entL, if_neg (by simp)]
  | d :: ds, i, t, σ => by
    rw [entL]
    by_cases e : t = i
    · subst e; rw [Env.set_same, if_pos ⟨Nat.le_refl _, by simp⟩]; simp
    · rw [Env.set_ne _ _ _ _ e, entL_at ds (i + 1) t]
      by_cases h : i + 1 ≤ t ∧ t < i + 1 + ds.length
      · rw [if_pos h, if_pos (by simp; omega), show t - i = (t - (i + 1)) + 1 by omega]
        simp
      · rw [if_neg h, if_neg (by simp; omega)]

theorem does_of {xo : List Nat} {f : FuncId} {n : Nat} {dc : DC} {rs : List Res} (hc : cfun P xo f = some (n, dc, rs)) (hm : P.follows .mixedOrders = true) {H ds H' : List D} {r : D} (hl : ds.length ≤ n)
    (hd : dwp P H.length dc (ent H ds) (Fin H.length rs r H') (fun _ _ => False) (Fin H.length rs r H')) : Does P f H ds r H' := by
  unfold cfun at hc
  split at hc
  rotate_left
  · cases hc
  rename_i fn hf
  split at hc
  rotate_left
  · cases hc
  rename_i c hb
  simp only [Option.bind_eq_some_iff, oif_some, Option.some.injEq, Prod.mk.injEq, decide_eq_true_eq] at hc
  obtain ⟨dc', hdc, rs', hrs, hnb, rfl, rfl, rfl⟩ := hc
  intro w F m xs hxl hHle hwf hfz hblk hnone hinj
  refine calls_of_wp hf hb ?_
  let G : Ctx := { n := fn.ntmps, w0 := w, F0 := F, R0 := fun b => ∃ i, i < H.length ∧ m (nb + i) = some (some b), k := H.length, m0 := m }
  have hgetx : ∀ t, (xs.toArray ++ Array.replicate (fn.ntmps - xs.toArray.size) undef).getD t undef = xs.getD t undef := by
    intro t
    simp only [Array.getD_eq_getD_getElem?, List.getD_eq_getElem?_getD]
    by_cases ht : t < xs.length
    · rw [Array.getElem?_append_left (by simpa using ht)]
      simp
    · rw [Array.getElem?_append_right (by simpa using ht), Array.getElem?_replicate, List.getElem?_eq_none (by omega)]
      split <;> rfl
  have hslot : ∀ t, t < nb → ent H ds t = if t < ds.length then ds.getD t .any else .any := by
    intro t ht
    unfold ent
    rw [entL_at, entL_at]
    by_cases h : t < ds.length
    · rw [if_pos ⟨Nat.zero_le _, by omega⟩, if_pos h]; simp
    · rw [if_neg (by omega), if_neg (by omega), if_neg h]; unfold base; rw [if_pos ht]
  have hnm : ∀ g, nb ≤ g → ent H ds g = if g < nb + H.length then H.getD (g - nb) .any else .free := by
    intro g hg
    unfold ent
    rw [entL_at, entL_at, if_neg (by omega)]
    by_cases h : g < nb + H.length
    · rw [if_pos ⟨hg, h⟩, if_pos h]
    · rw [if_neg (by omega), if_neg h]; unfold base; rw [if_neg (by omega), if_neg (by omega)]
  have hHi : ∀ i, i < H.length → H[i]? = some (H.getD i .any) := fun i hi => by rw [List.getD_eq_getElem?_getD, List.getElem?_eq_getElem hi]; rfl
  have hisb : ∀ g, nb ≤ g → (ent H ds g).isBlk = true → g < nb + H.length := by
    intro g hg h
    rw [hnm g hg] at h
    split at h
    · assumption
    · cases h
  have hR0 : Rel G (ent H ds) { tmps := xs.toArray ++ Array.replicate (fn.ntmps - xs.toArray.size) undef, defers := [] } w := by
    refine ⟨rfl, F, m, ?_, hnb, fun t ht => ?_, fun g hg => ?_, fun g g' b hg hg' h1 h2 h3 h4 => ?_, hwf, Chg.refl w F _, fun g b hg h1 h2 => ?_, fun i hi => ?_⟩
    · show (xs.toArray ++ Array.replicate (fn.ntmps - xs.toArray.size) undef).size = fn.ntmps
      simp only [Array.size_append, Array.size_replicate, List.size_toArray]
      omega
    · show Fz w F m (ent H ds t) ((xs.toArray ++ Array.replicate (fn.ntmps - xs.toArray.size) undef).getD t undef)
      rw [hgetx, hslot t ht]
      by_cases h : t < ds.length
      · have hx : xs[t]? = some (xs.getD t undef) := by rw [List.getD_eq_getElem?_getD, List.getElem?_eq_getElem (by omega)]; rfl
        have hdd : ds[t]? = some (ds.getD t .any) := by rw [List.getD_eq_getElem?_getD, List.getElem?_eq_getElem h]; rfl
        rw [if_pos h]
        exact hfz t _ _ hdd hx
      · rw [if_neg h]; exact .any _ _
    · rw [hnm g hg]
      by_cases h : g < nb + H.length
      · rw [if_pos h]
        have := (hblk (g - nb) _ (hHi _ (by omega))).2
        rwa [show nb + (g - nb) = g by omega] at this
      · rw [if_neg h]; exact hnone g (.inr (by omega))
    · have l1 := hisb g hg h1
      have l2 := hisb g' hg' h2
      have := hinj (g - nb) (g' - nb) b (by omega) (by omega) (by rwa [show nb + (g - nb) = g by omega]) (by rwa [show nb + (g' - nb) = g' by omega])
      omega
    · have l1 := hisb g hg h1
      exact .inl ⟨g - nb, by omega, by rwa [show nb + (g - nb) = g by omega]⟩
    · have hi : i < H.length := hi
      refine ⟨?_, rfl⟩
      rw [hnm _ (by omega), if_pos (by omega), show nb + i - nb = i by omega]
      have := (hblk i _ (hHi i hi)).1
      intro e
      rw [e] at this
      cases this
  have fin : ∀ (a' : Act) (w' : World), (∃ τ, Rel G τ a' w' ∧ Fin H.length rs' r H' τ) → a'.defers = [] ∧ ∃ v, (results fn a'.tmps).run P w' = .ok v w' ∧
      (∃ (x : Value) (F' : Cells) (m' : Names), Ending.returned v = .returned x ∧ Chg w F (fun b => ∃ i, i < H.length ∧ m (nb + i) = some (some b)) w' F' ∧
      (∀ b o, F' b o → b < w'.heap.size) ∧ (∀ i, i < H.length → m' (nb + i) = m (nb + i)) ∧ (∀ g, g < nb ∨ nb + H'.length ≤ g → m' g = none) ∧ Fz w' F' m' r x ∧ (∀ (i : Nat) (d : D), H'[i]? = some d → d ≠ .free ∧ Blk w' F' m' (nb + i) d) ∧
      (∀ i j b d d', H'[i]? = some d → H'[j]? = some d' → d.isBlk = true → d'.isBlk = true → m' (nb + i) = some (some b) → m' (nb + j) = some (some b) → i = j) ∧
      (∀ i d b, H'[i]? = some d → d.isBlk = true → m' (nb + i) = some (some b) → (∃ j, j < H.length ∧ m (nb + j) = some (some b)) ∨ w.heap.size ≤ b)) := by
    rintro a' w' ⟨τ0, hR, τ, L, hwk, hfin⟩
    obtain ⟨hdf, F', m1, hR⟩ := hwk G a' w' rfl hR
    obtain ⟨v, hv, hfv⟩ := res_run hR fn hrs hfin.ok
    have hcan := can_of hfin.can
    have hmm : ∀ g g', nameOf L g = some g' → (fun g => (nameOf L g).bind m1) g = m1 g' := fun g g' hg => by simp [hg]
    have hat : ∀ i g, L[i]? = some g → (nameOf L (nb + i)).bind m1 = m1 g := fun i g hg => by rw [nameOf_at, hg]; rfl
    have hLi : ∀ (i : Nat) (d : D), H'[i]? = some d → ∃ g, L[i]? = some g ∧ nb ≤ g ∧ (d = .any ∨ (d.isBlk = true ∧ τ g = d.ren L)) := fun i d hd => by
      have h1 : i < L.length := by rw [hfin.len]; exact (List.getElem?_eq_some_iff.1 hd).1
      have h2 := List.getElem?_eq_getElem h1
      exact ⟨_, h2, hcan.ge _ (List.mem_of_getElem? h2), hfin.blk i d _ hd h2⟩
    have hbl : ∀ (i : Nat) (d : D), H'[i]? = some d → d.isBlk = true → ∃ g, L[i]? = some g ∧ nb ≤ g ∧ (τ g).isBlk = true := fun i d hd hb => by
      obtain ⟨g, hg, hgn, h | ⟨_, h⟩⟩ := hLi i d hd
      · rw [h] at hb; cases hb
      · exact ⟨g, hg, hgn, by rw [h, isBlk_ren]; exact hb⟩
    have hfv := hfin.res _ _ _ _ hfv
    refine ⟨hdf, v, hv, v, F', fun g => (nameOf L g).bind m1, rfl, hR.chg, hR.wf, fun i hi => ?_, fun g hg => ?_, hfv.unren hmm rfl, fun i d hd => ?_, fun i j b d d' hd hd' h1 h2 h3 h4 => ?_, fun i d b hd h1 h2 => ?_⟩
    · show (nameOf L (nb + i)).bind m1 = m (nb + i)
      rw [hat i _ (hcan.fix i hi)]
      exact (hR.par i hi).2
    · show (nameOf L g).bind m1 = none
      rcases hg with hg | hg
      · unfold nameOf; rw [if_pos hg]; rfl
      · unfold nameOf
        rw [if_neg (by omega), List.getElem?_eq_none (by rw [hfin.len]; omega)]
        rfl
    · obtain ⟨g, hg, hgn, h | ⟨hb, h⟩⟩ := hLi i d hd
      · subst h; exact ⟨(fun e => by cases e), trivial⟩
      · refine ⟨(fun e => by rw [e] at hb; cases hb), ?_⟩
        have h0 := hR.blks g hgn
        rw [h] at h0
        exact h0.unren hb hmm (hat i g hg)
    · obtain ⟨g, hg, hgn, hgb⟩ := hbl i d hd h1
      obtain ⟨g', hg', hgn', hgb'⟩ := hbl j d' hd' h2
      dsimp only at h3 h4
      rw [hat i g hg] at h3
      rw [hat j g' hg'] at h4
      have e := hR.inj g g' b hgn hgn' hgb hgb' h3 h4
      subst e
      exact (List.getElem?_inj (List.getElem?_eq_some_iff.1 hg).1 hcan.nd).1 (hg.trans hg'.symm)
    · obtain ⟨g, hg, hgn, hgb⟩ := hbl i d hd h1
      dsimp only at h2
      rw [hat i g hg] at h2
      exact hR.own g b hgn hgb h2
  refine wp_mono (dwp_ok (G := G) hm c dc' (ent H ds) _ w _ _ _ hdc hR0 hd) ?_
  intro e a' w' hp
  cases e with
  | normal => exact fin a' w' hp
  | ret => exact fin a' w' hp
  | exit id => obtain ⟨_, _, h⟩ := hp; exact h.elim
  | _ => exact hp.elim

end
end
section
open Go.RowKit

theorem set_get (σ : Env) (t : Nat) (d : D) (u : Nat) : (σ.set t d) u = if u = t then d else σ u := rfl
theorem base_get (c t : Nat) : base c t = if t < 1000000 then .any else if t < 1000000 + c then .any else .free := rfl
theorem nb_eq : nb = 1000000 := rfl
theorem freeN_eq (σ : Env) (g : Nat) : freeN σ g = (1000000 ≤ g ∧ σ g = .free) := rfl
theorem nameOf_nil (g : Nat) : nameOf [] g = none := by
  unfold nameOf
  split <;> rfl

theorem evG_mono {P : Program} {B : List Nat} {N M : Env → Prop} (h : ∀ τ, N τ → M τ) : ∀ (l : List GI) (σ : Env) (acc : Option (List Ent)), evG P B l σ acc N → evG P B l σ acc M
  | [], σ, _, hh => ⟨hh.1, h σ hh.2⟩
  | _ :: l, _, _, ⟨e, upd, hs, hh⟩ => ⟨e, upd, hs, evG_mono h l _ _ hh⟩
theorem dwp_mono {P : Program} {k : Nat} (c : DC) : ∀ {σ : Env} {N M : Env → Prop} {X Y : Nat → Env → Prop} {R S : Env → Prop}, (∀ τ, N τ → M τ) → (∀ i τ, X i τ → Y i τ) → (∀ τ, R τ → S τ) → dwp P k c σ N X R → dwp P k c σ M Y S := by
  induction c with
  | skip => intro σ N M X Y R S hN hX hR h; exact hN _ h
  | reg gis B => intro σ N M X Y R S hN hX hR h; exact evG_mono hN _ _ _ h
  | seq a b iha ihb => intro σ N M X Y R S hN hX hR h; exact iha (fun τ hτ => ihb hN hX hR hτ) hX hR h
  | cond c a b iha ihb =>
    intro σ N M X Y R S hN hX hR h
    simp only [dwp] at h ⊢
    cases hv : c.val σ with
    | v x =>
      rw [hv] at h
      cases x with
      | bool q => exact ⟨fun hq => iha hN hX hR (h.1 hq), fun hq => ihb hN hX hR (h.2 hq)⟩
      | _ => exact h.elim
    | _ => rw [hv] at h; exact h.elim
  | block id c ih =>
    intro σ N M X Y R S hN hX hR h
    refine ih hN (fun i τ hτ => ?_) hR h

    split
    · rename_i e; rw [if_pos e] at hτ; exact hN _ hτ
    · rename_i e; rw [if_neg e] at hτ; exact hX _ _ hτ
  | loop c ih =>
    intro σ N M X Y R S hN hX hR h
    obtain ⟨ι, I, J, m, i, hJ, hw, hh⟩ := h
    exact ⟨ι, I, J, m, i, hJ, hw, fun i hJ => ih (fun _ h => h) hX hR (hh i hJ)⟩
  | exit id => intro σ N M X Y R S hN hX hR h; exact hX _ _ h
  | ret => intro σ N M X Y R S hN hX hR h; exact hR _ h
  | no => intro σ N M X Y R S hN hX hR h; exact h.elim

theorem Sub.refl (d : D) : Sub d d := fun _ _ _ _ h => h
theorem Sub.of_eq {d e : D} (h : d = e) : Sub d e := by subst h; exact Sub.refl d
theorem Sub.any (d : D) : Sub d .any := fun _ _ m x _ => .any m x
theorem Sub.nul (s : Nat) : Sub .nul (.sl s []) := fun _ _ m x h => by cases h with
  | nul _ a => exact .sl0 m s a 0
def SubL : List D → List D → Prop
  | [], [] => True
  | d :: l, e :: k => Sub d e ∧ SubL l k
  | _, _ => False
theorem SubL.refl : ∀ l : List D, SubL l l
  | [] => trivial
  | d :: l => ⟨Sub.refl d, SubL.refl l⟩
theorem SubL.spec : ∀ {l k : List D}, SubL l k → l.length = k.length ∧ ∀ (i : Nat) (e : D), k[i]? = some e → ∃ d, l[i]? = some d ∧ Sub d e
  | [], [], _ => ⟨rfl, fun i e h => by simp at h⟩
  | [], _ :: _, h => h.elim
  | _ :: _, [], h => h.elim
  | d :: l, e :: k, h => by
    obtain ⟨h1, h2⟩ := h.2.spec
    refine ⟨by simp [h1], fun i e' he => ?_⟩
    cases i with
    | zero =>
      obtain rfl : e = e' := by simpa using he
      exact ⟨d, rfl, h.1⟩
    | succ i => exact h2 i e' (by simpa using he)
theorem Sub.agg {l k : List D} (h : SubL l k) : Sub (.agg l) (.agg k) := fun w F m x hx => by
  obtain ⟨h1, h2⟩ := h.spec
  cases hx with
  | agg _ _ us hl ho hr =>
    exact .agg m k us (by rw [hl, h1]) ho (fun i e u he hu => by
      obtain ⟨d, hd, hs⟩ := h2 i e he
      exact hs _ _ _ _ (hr i d u hd hu))
theorem Sub.tup {l k : List D} (h : SubL l k) : Sub (.tup l) (.tup k) := fun w F m x hx => by
  obtain ⟨h1, h2⟩ := h.spec
  cases hx with
  | tup _ _ us hl hr =>
    exact .tup m k us (by rw [hl, h1]) (fun i e u he hu => by
      obtain ⟨d, hd, hs⟩ := h2 i e he
      exact hs _ _ _ _ (hr i d u hd hu))
theorem Sub.trans {d e f : D} (h : Sub d e) (h1 : Sub e f) : Sub d f := fun w F m x hx => h1 w F m x (h w F m x hx)
/-- A contract may say less of its result, and ask more of its arguments. -/
theorem Does.weak {P : Program} {f : FuncId} {H ds es H' : List D} {r s : D} (h : Does P f H ds r H') (ha : SubL es ds) (hr : Sub r s) : Does P f H es s H' := by
  intro w F m xs hxl hHle hwf hfz hblk hnone hinj
  obtain ⟨h1, h2⟩ := ha.spec
  refine (h w F m xs (by rw [hxl, h1]) hHle hwf (fun i d x hd hx => ?_) hblk hnone hinj).mono ?_
  · obtain ⟨e, he, hs⟩ := h2 i d hd
    exact hs _ _ _ _ (hfz i e x he hx)
  · rintro e w' ⟨x, F', m', rfl, c, g1, g2, g3, g4, g5⟩
    exact ⟨x, F', m', rfl, c, g1, g2, g3, hr _ _ _ _ g4, g5⟩

theorem ok_of {σ : Env} {i : In} (h : i.ok σ) : i.ok σ := h

section
variable {P : Program} {k : Nat} {a b : DC} {σ : Env} {N : Env → Prop} {X : Nat → Env → Prop} {R : Env → Prop}
theorem dw_skip (h : N σ) : dwp P k .skip σ N X R := h
instance i_dw_skip : Stp (N σ) (dwp P k .skip σ N X R) := ⟨dw_skip⟩
theorem dw_reg0 {gis : List GI} (h : evG P [] gis σ none N) : dwp P k (.reg gis none) σ N X R := h
theorem dw_regB {gis : List GI} {B : List Nat} (h : evG P B gis σ (some []) N) : dwp P k (.reg gis (some B)) σ N X R := h
theorem dw_seq (h : dwp P k a σ (fun τ => dwp P k b τ N X R) X R) : dwp P k (.seq a b) σ N X R := h
instance i_dw_seq : Stp (dwp P k a σ (fun τ => dwp P k b τ N X R) X R) (dwp P k (.seq a b) σ N X R) := ⟨dw_seq⟩
theorem dw_block {id : Nat} (h : dwp P k a σ N (fun i τ => if i = id then N τ else X i τ) R) : dwp P k (.block id a) σ N X R := h
instance i_dw_block {id : Nat} : Stp (dwp P k a σ N (fun i τ => if i = id then N τ else X i τ) R) (dwp P k (.block id a) σ N X R) := ⟨dw_block⟩
theorem dw_exit {id : Nat} (h : X id σ) : dwp P k (.exit id) σ N X R := h
instance i_dw_exit {id : Nat} : Stp (X id σ) (dwp P k (.exit id) σ N X R) := ⟨dw_exit⟩
theorem dw_ret (h : R σ) : dwp P k .ret σ N X R := h
instance i_dw_ret : Stp (R σ) (dwp P k .ret σ N X R) := ⟨dw_ret⟩
def dwC (P : Program) (k : Nat) (c : D) (a b : DC) (σ : Env) (N : Env → Prop) (X : Nat → Env → Prop) (R : Env → Prop) : Prop :=
  match c with
  | .v (.bool q) => (q = true → dwp P k a σ N X R) ∧ (q = false → dwp P k b σ N X R)
  | _ => False
theorem dw_cond {c : Opd} (h : dwC P k (hold (c.val σ)) a b σ N X R) : dwp P k (.cond c a b) σ N X R := by
  unfold hold dwC at h
  show (match c.val σ with
    | .v (.bool q) => (q = true → dwp P k a σ N X R) ∧ (q = false → dwp P k b σ N X R)
    | _ => False)
  cases hc : c.val σ with
  | v x => rw [hc] at h; cases x <;> exact h
  | _ => rw [hc] at h; exact h.elim
instance i_dw_cond {c : Opd} : Stp (dwC P k (hold (c.val σ)) a b σ N X R) (dwp P k (.cond c a b) σ N X R) := ⟨dw_cond⟩
theorem c_true (h : dwp P k a σ N X R) : dwC P k (.v (.bool true)) a b σ N X R := ⟨fun _ => h, (fun e => by cases e)⟩
instance i_c_true : Stp (dwp P k a σ N X R) (dwC P k (.v (.bool true)) a b σ N X R) := ⟨c_true⟩
theorem c_false (h : dwp P k b σ N X R) : dwC P k (.v (.bool false)) a b σ N X R := ⟨(fun e => by cases e), fun _ => h⟩
instance i_c_false : Stp (dwp P k b σ N X R) (dwC P k (.v (.bool false)) a b σ N X R) := ⟨c_false⟩
theorem c_split {q : Bool} (h1 : q = true → dwp P k a σ N X R) (h2 : q = false → dwp P k b σ N X R) : dwC P k (.v (.bool q)) a b σ N X R := ⟨h1, h2⟩
theorem c_splitP {p : Prop} [Decidable p] (h1 : decide p = true → p → dwp P k a σ N X R) (h2 : decide p = false → ¬ p → dwp P k b σ N X R) : dwC P k (.v (.bool (decide p))) a b σ N X R := ⟨fun h => h1 h (of_decide_eq_true h), fun h => h2 h (of_decide_eq_false h)⟩
instance i_c_splitP {p : Prop} [Decidable p] : Spl (decide p = true) (p) (dwp P k a σ N X R) (decide p = false) (¬ p) (dwp P k b σ N X R) (dwC P k (.v (.bool (decide p))) a b σ N X R) := ⟨c_splitP⟩
theorem c_splitE {x y : Int} (h1 : (x == y) = true → x = y → dwp P k a σ N X R) (h2 : (x == y) = false → ¬ x = y → dwp P k b σ N X R) : dwC P k (.v (.bool (x == y))) a b σ N X R := ⟨fun h => h1 h (by simpa using h), fun h => h2 h (by simpa using h)⟩
instance i_c_splitE {x y : Int} : Spl ((x == y) = true) (x = y) (dwp P k a σ N X R) ((x == y) = false) (¬ x = y) (dwp P k b σ N X R) (dwC P k (.v (.bool (x == y))) a b σ N X R) := ⟨c_splitE⟩
theorem c_splitN {x y : Int} (h1 : (x != y) = true → ¬ x = y → dwp P k a σ N X R) (h2 : (x != y) = false → x = y → dwp P k b σ N X R) : dwC P k (.v (.bool (x != y))) a b σ N X R := ⟨fun h => h1 h (by simpa using h), fun h => h2 h (by simpa using h)⟩
instance i_c_splitN {x y : Int} : Spl ((x != y) = true) (¬ x = y) (dwp P k a σ N X R) ((x != y) = false) (x = y) (dwp P k b σ N X R) (dwC P k (.v (.bool (x != y))) a b σ N X R) := ⟨c_splitN⟩
theorem c_splitQ {p : Prop} [Decidable p] (h1 : decide p = false → ¬ p → dwp P k a σ N X R) (h2 : decide p = true → p → dwp P k b σ N X R) : dwC P k (.v (.bool (!decide p))) a b σ N X R := ⟨fun h => h1 (by simpa using h) (by simpa using h), fun h => h2 (by simpa using h) (by simpa using h)⟩
instance i_c_splitQ {p : Prop} [Decidable p] : Spl (decide p = false) (¬ p) (dwp P k a σ N X R) (decide p = true) (p) (dwp P k b σ N X R) (dwC P k (.v (.bool (!decide p))) a b σ N X R) := ⟨c_splitQ⟩
theorem it_pos {c : Prop} [Decidable c] {p q : Prop} (hc : c) (h : p) : if c then p else q := by rw [if_pos hc]; exact h
theorem it_neg {c : Prop} [Decidable c] {p q : Prop} (hc : ¬ c) (h : q) : if c then p else q := by rw [if_neg hc]; exact h
theorem dw_loop {ι : Type} (I : ι → Env) (J : ι → Prop) (m : ι → Nat) (i : ι) (hJ : J i) (hi : Wk k σ (I i))
    (h : ∀ i, J i → dwp P k a (I i) (fun τ => ∃ j, J j ∧ m j < m i ∧ Wk k τ (I j)) X R) : dwp P k (.loop a) σ N X R := ⟨ι, I, J, m, i, hJ, hi, h⟩
/-- A loop over the numbers from lo on, below hi; what else is known by the list l. -/
theorem dw_for {c : Nat} {l : Nat → List (Nat × D)} (hi : Nat) (J : Nat → Prop) (i : Nat) (hJ : J i) (hw : Wk k σ (ofL c (l i)))
    (h : ∀ i, i ≤ hi → J i → dwp P k a (hold (ofL c (l i))) (fun τ => i < hi ∧ J (i + 1) ∧ Wk k τ (ofL c (l (i + 1)))) X R) (hle : i ≤ hi) : dwp P k (.loop a) σ N X R := by
  refine dw_loop (fun i => ofL c (l i)) (fun i => i ≤ hi ∧ J i) (fun i => hi - i) i ⟨hle, hJ⟩ hw (fun i hJ => ?_)
  have hh := h i hJ.1 hJ.2
  exact dwp_mono a (fun τ hτ => ⟨i + 1, ⟨hτ.1, hτ.2.1⟩, by have := hτ.1; omega, hτ.2.2⟩) (fun _ _ h => h) (fun _ h => h) hh

def finB (σ : Env) (L : List Nat) : List Nat → List D → Prop
  | [], [] => True
  | g :: l, d :: H => (d = .any ∨ (d.isBlk = true ∧ σ g = d.ren L)) ∧ finB σ L l H
  | _, _ => False
theorem finB_at {σ : Env} {L : List Nat} : ∀ {l : List Nat} {H : List D}, finB σ L l H → l.length = H.length ∧ ∀ (i : Nat) (d : D) (g : Nat), H[i]? = some d → l[i]? = some g → d = .any ∨ (d.isBlk = true ∧ σ g = d.ren L)
  | [], [], _ => ⟨rfl, fun i d g h => by simp at h⟩
  | [], _ :: _, h => h.elim
  | _ :: _, [], h => h.elim
  | g :: l, d :: H, h => by
    obtain ⟨h1, h2⟩ := finB_at h.2
    refine ⟨by simp [h1], fun i d' g' hd hg => ?_⟩
    cases i with
    | zero =>
      obtain rfl : d = d' := by simpa using hd
      obtain rfl : g = g' := by simpa using hg
      exact h.1
    | succ i => exact h2 i d' g' (by simpa using hd) (by simpa using hg)
/-- At a function's end. -/
theorem fin_L {rs : List Res} {r : D} {H' : List D} (L : List Nat) (hok : hold (resOk σ rs)) (hres : Sub (hold (resD σ rs)) (hold (r.ren L))) (hL : canB k L = true) (hb : hold (finB σ L L H')) : Fin k rs r H' σ :=
  ⟨σ, L, Wk.refl k σ, hok, hres, (finB_at (show finB σ L L H' from hb)).1, hL, (finB_at (show finB σ L L H' from hb)).2⟩
theorem fin_0 {rs : List Res} {r : D} (hok : hold (resOk σ rs)) (hp : r.pur = true) (hres : Sub (hold (resD σ rs)) (hold r)) : Fin 0 rs r [] σ :=
  fin_L [] hok (by rw [show hold (r.ren []) = r from ren_pure _ _ hp]; exact hres) rfl trivial
theorem fin_wk {rs : List Res} {r : D} {H' : List D} {τ : Env} (hw : Wk k σ τ) (h : Fin k rs r H' (hold τ)) : Fin k rs r H' σ := by
  obtain ⟨τ', L, hw', hf⟩ := h
  exact ⟨τ', L, hw.trans hw', hf⟩
theorem wk_frz (t g : Nat) {s : Nat} {es : List D} (ht : t < nb) (hg : nb ≤ g) (hr : σ g = .row s es) (hp : D.purL es = true) : Wk k σ (Env.put (frzU σ t g s es) σ) := fun _ _ _ _ hR => hR.frz ht hg hr hp
theorem wk_frzO (q g : Nat) {s : Nat} {es cs : List D} (hq : nb ≤ q) (hqg : q ≠ g) (hcs : σ q = .obj cs) (hg : nb ≤ g) (hr : σ g = .row s es) (hp : D.purL es = true) : Wk k σ (Env.put (frzO σ q g s es) σ) := fun _ _ _ _ hR => hR.frzObj hq hqg hcs hg hr hp
/-- An empty slice, of whatever kind. -/
theorem wk_nul (t : Nat) (s : Nat) (ht : t < nb) (hr : σ t = .nul) : Wk k σ (σ.set t (.sl s [])) := fun G a w _ hR => (pre_nul ht s hr).2 G σ a w (fun _ _ => rfl) hR

/-- An empty slice as a row of one's own, without a block. -/
theorem wk_row (t g : Nat) (s : Nat) (ht : t < nb) (hg : nb ≤ g) (hr : σ t = .nul) (hf : σ g = .free) : Wk k σ ((σ.set g (.row s [])).set t (.own g s 0)) := by
  rintro G a w - ⟨hd, F, m, h⟩
  have hmg : m g = none := by have := h.blks g hg; rw [hf] at this; exact this
  have h1 := h.slots t ht
  rw [hr] at h1
  have h2 := h.name (δ := .row s []) hg hf (Chg.refl w F noBlocks) h.wf none (.inl ⟨rfl, by simp⟩) (fun b hb => by cases hb) (fun b hb => by cases hb)
  refine ⟨hd, F, _, h2.recast ht ?_⟩
  generalize a.tmps.getD t undef = y at h1
  cases h1 with
  | nul _ a => exact .own0 _ g s a (by simp)

/-- The same in a cell of one's own. -/
theorem wk_rowO (q g : Nat) (s j : Nat) {cs : List D} (hq : nb ≤ q) (hg : nb ≤ g) (hqg : q ≠ g) (hr : σ q = .obj cs) (hj : cs[j]? = some .nul) (hf : σ g = .free) : Wk k σ ((σ.set g (.row s [])).set q (.obj (cs.set j (.own g s 0)))) := by
  rintro G a w - ⟨hd, F, m, h⟩
  have hmg : m g = none := by have := h.blks g hg; rw [hf] at this; exact this
  have h2 := h.name (δ := .row s []) hg hf (Chg.refl w F noBlocks) h.wf none (.inl ⟨rfl, by simp⟩) (fun b hb => by cases hb) (fun b hb => by cases hb)
  have e : (σ.set g (.row s [])) q = .obj cs := by rw [Env.set_ne _ _ _ _ hqg, hr]
  refine ⟨hd, F, _, h2.turn hq (by rw [e]; rfl) (Chg.refl w F _) h.wf ?_ (fun e => by cases e)⟩
  have h3 := h2.blks q hq
  rw [e] at h3
  obtain ⟨b, cur, T, hm, hb, hc, hF⟩ := h3
  refine ⟨b, cur, T, hm, hb, ⟨by rw [List.length_set]; exact hc.len, hc.one, fun i d u hd hu => ?_⟩, hF⟩
  rw [List.getElem?_set] at hd
  split at hd
  · rename_i hij
    subst hij
    split at hd
    · obtain rfl : D.own g s 0 = d := by simpa using hd
      have h4 := hc.fz j _ u hj hu
      cases h4 with
      | nul _ a => exact .own0 _ g s a (by simp)
    · cases hd
  · exact hc.fz i d u hd hu

theorem acc_none {B : List Nat} {l : List GI} {e : Ent} (h : evG P B l σ none N) : evG P B l σ (hold (push e none)) N := h
theorem does0 {xo : List Nat} {f : FuncId} {n : Nat} {dc : DC} {rs : List Res} (hc : cfun P xo f = some (n, dc, rs)) (hm : P.follows .mixedOrders = true) {ds : List D} {r : D} (hl : ds.length ≤ n)
    (hd : dwp P 0 dc (hold (ent [] ds)) (Fin 0 rs r []) (fun _ _ => False) (Fin 0 rs r [])) : Does P f [] ds r [] := does_of hc hm hl hd
theorem does {xo : List Nat} {f : FuncId} {n : Nat} {dc : DC} {rs : List Res} (hc : cfun P xo f = some (n, dc, rs)) (hm : P.follows .mixedOrders = true) {H ds H' : List D} {r : D} (hl : ds.length ≤ n) (k : Nat) (hk : H.length = k)
    (hd : dwp P k dc (hold (ent H ds)) (Fin k rs r H') (fun _ _ => False) (Fin k rs r H')) : Does P f H ds r H' := by
  subst hk
  exact does_of hc hm hl hd
end
attribute [go_sem] neD hold_eq push_some oldOk newOk resD resOk Res.val Res.ok agr agr1 finB In.upd In.ok In.ent Opd.val Opd.rd optRd Env.put skipUpd set_get base_get ent entL ofL ptrC ptrO ptrOk ptrRoot ptrD ptrMv elemSet stoU notPtr seqD seqOk seqRoot isSl lenD lenOk freeN_eq nb_eq frzU frzO D.frz D.frzL D.pur D.purL D.ren D.renL D.isBlk D.nmd nameOf callU List.zip_cons_cons List.zip_nil_left Nat.add_zero Nat.zero_add D.cells D.one D.getC D.getCok D.asC D.asCok D.int? D.setC D.setAll binD binOk binV binVok binS binSok eqB eqOk fillD fillOk elemsD elemsOk mmV intD intOk boundD boundOk Option.toList_some Option.toList_none List.flatMap_cons List.flatMap_nil List.map_nil List.map_cons List.cons_append List.nil_append List.append_nil List.getD_cons_zero List.getD_cons_succ List.getD_eq_getElem?_getD List.getElem?_cons_zero List.getElem?_cons_succ List.getElem?_nil List.set_cons_zero List.set_cons_succ List.take_succ_cons List.take_zero List.drop_succ_cons List.drop_zero List.length_cons List.length_nil List.length_map List.replicate_succ List.replicate_zero Option.getD_some Option.getD_none Option.isSome_some and_true true_and and_self and_false false_and or_true true_or or_false false_or Value.oneCell' Bool.not_true Bool.not_false Bool.and_self Bool.and_true Bool.true_and ne_eq not_false_eq_true not_true_eq_false Int.toNat_natCast Option.some.injEq Bool.false_eq_true decide_true decide_false
end
end Go.Proofs.Ytkfmglbnicbooaa
