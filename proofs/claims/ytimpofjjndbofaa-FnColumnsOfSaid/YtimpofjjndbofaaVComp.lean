/-
  How the program's code is read as code on plain data. Definitions, and that each operation read is what it says. No condition.
-/
import Derived.Test.YtimpofjjndbofaaVSndF
namespace Go.Proofs.Ytimpofjjndbofaa
open Go.RowKit

def oif {α : Type} (c : Bool) (x : Option α) : Option α := if c then x else none
theorem oif_some {α : Type} {c : Bool} {x : Option α} {y : α} : oif c x = some y ↔ c = true ∧ x = some y := by
  unfold oif
  cases c <;> simp

def tmpOf : Operand → Option Nat
  | .tmp t => if t < nb then some t else none
  | _ => none
theorem tmpOf_some {x : Operand} {t : Nat} (h : tmpOf x = some t) : x = .tmp t ∧ t < nb := by
  cases x with
  | tmp u =>
    have h' : (if u < nb then some u else none) = some t := h
    split at h'
    · obtain rfl : u = t := by simpa using h'
      exact ⟨rfl, ‹_›⟩
    · cases h'
  | _ => cases h

def sliceElem (P : Program) (t : TypeId) : Option TypeId :=
  match P.underlying t with
  | some (.slice e) => some e
  | _ => none
theorem sliceElem_some {P : Program} {t e : TypeId} (h : sliceElem P t = some e) : P.underlying t = some (.slice e) := by
  unfold sliceElem at h
  split at h
  · rename_i e' he
    obtain rfl : e' = e := by simpa using h
    exact he
  · cases h
def isString (P : Program) (t : TypeId) : Bool :=
  match P.underlying t with
  | some .string => true
  | _ => false
theorem isString_some {P : Program} {t : TypeId} (h : isString P t = true) : P.underlying t = some .string := by
  unfold isString at h
  split at h
  · assumption
  · cases h
def isBool (P : Program) (t : TypeId) : Bool :=
  match P.underlying t with
  | some .bool => true
  | _ => false
theorem isBool_some {P : Program} {t : TypeId} (h : isBool P t = true) : P.underlying t = some .bool := by
  unfold isBool at h
  split at h
  · assumption
  · cases h
def isStruct (P : Program) (t : TypeId) : Bool :=
  match P.underlying t with
  | some (.struct _) => true
  | _ => false
def intKind (P : Program) (t : TypeId) : Option IntKind :=
  match P.underlying t with
  | some (.int k) => some k
  | _ => none
theorem intKind_some {P : Program} {t : TypeId} {k : IntKind} (h : intKind P t = some k) : P.underlying t = some (.int k) := by
  unfold intKind at h
  split at h
  · rename_i k' hk
    obtain rfl : k' = k := by simpa using h
    exact hk
  · cases h
def arrayOf (P : Program) (t : TypeId) : Option (Nat × TypeId) :=
  match P.underlying t with
  | some (.array n e) => some (n, e)
  | _ => none
theorem arrayOf_some {P : Program} {t n e : Nat} (h : arrayOf P t = some (n, e)) : P.underlying t = some (.array n e) := by
  unfold arrayOf at h
  split at h
  · rename_i n' e' hn
    obtain ⟨rfl, rfl⟩ : n' = n ∧ e' = e := by simpa using h
    exact hn
  · cases h
def concrete' (P : Program) (t : TypeId) : Bool :=
  match P.underlying t with
  | some (.interface _) => false
  | some _ => true
  | none => false

/-- The fields that a literal names: where each lies, how many cells it takes. -/
def partSize (P : Program) (T : TypeId) (i : Nat) : Option (Option Nat) :=
  match P.underlying T with
  | some (.struct fields) => match fields[i]? with
    | some f => szOf P f.type
    | none => none
  | some (.array _ e) => szOf P e
  | _ => none
def cparts (P : Program) (T : TypeId) (place : Nat → Option (Nat × Nat)) : List (Nat × Operand) → Option (List (Nat × Option Nat × Opd))
  | [] => some []
  | (i, x) :: l => (place i).bind fun p => (partSize P T i).bind fun n => (opd x).bind fun X => oif (p.2 == n.getD 1) ((cparts P T place l).bind fun m => some ((p.1, n, X) :: m))
theorem cparts_ok {P : Program} {T : TypeId} {place : Nat → Option (Nat × Nat)} : ∀ {l : List (Nat × Operand)} {m : List (Nat × Option Nat × Opd)}, cparts P T place l = some m → Parts place l m
  | [], m, h => by
    obtain rfl : [] = m := by simpa [cparts] using h
    exact .nil
  | (i, x) :: l, m, h => by
    simp only [cparts, Option.bind_eq_some_iff, oif_some, Option.some.injEq, beq_iff_eq] at h
    obtain ⟨p, hp, n, _, X, hX, he, m', hm, rfl⟩ := h
    exact .cons i p.1 n x X l m' (by rw [hp, ← he]) hX (cparts_ok hm)
def celems : List (Nat × Operand) → Option (List (Nat × Opd))
  | [] => some []
  | (i, x) :: l => (opd x).bind fun X => (celems l).bind fun m => some ((i, X) :: m)
theorem celems_ok : ∀ {l : List (Nat × Operand)} {m : List (Nat × Opd)}, celems l = some m → Elems l m
  | [], m, h => by
    obtain rfl : [] = m := by simpa [celems] using h
    exact .nil
  | (i, x) :: l, m, h => by
    simp only [celems, Option.bind_eq_some_iff, Option.some.injEq] at h
    obtain ⟨X, hX, m', hm, rfl⟩ := h
    exact .cons i x X l m' hX (celems_ok hm)
def cbound : Option Operand → Option (Option Opd)
  | none => some none
  | some x => (opd x).bind fun X => some (some X)
theorem cbound_ok {x : Option Operand} {X : Option Opd} (h : cbound x = some X) : Bound x X := by
  cases x with
  | none =>
    obtain rfl : none = X := by simpa [cbound] using h
    exact .none
  | some x =>
    simp only [cbound, Option.bind_eq_some_iff, Option.some.injEq] at h
    obtain ⟨Y, hY, rfl⟩ := h
    exact .some x Y hY
def sameOpd : Operand → Operand → Bool
  | .tmp a, .tmp b => a == b
  | .const (.int j a), .const (.int k b) => j == k && a == b
  | _, _ => false
theorem sameOpd_eq {x y : Operand} (h : sameOpd x y = true) : x = y := by
  cases x with
  | tmp a => cases y <;> simp_all [sameOpd]
  | const a => cases a <;> cases y <;> first | (simp [sameOpd] at h; done) | skip
               rename_i b
               cases b <;> simp_all [sameOpd]
  | _ => cases y <;> simp [sameOpd] at h

def isEql : BinOp → Bool
  | .eql => true
  | _ => false
theorem isEql_eq {op : BinOp} (h : isEql op = true) : op = .eql := by cases op <;> first | rfl | cases h
def isNeq : BinOp → Bool
  | .neq => true
  | _ => false
theorem isNeq_eq {op : BinOp} (h : isNeq op = true) : op = .neq := by cases op <;> first | rfl | cases h

def isMm : Builtin → Option Bool
  | .max => some true
  | .min => some false
  | _ => none
theorem isMm_eq {b : Builtin} {mx : Bool} (h : isMm b = some mx) : b = if mx then .max else .min := by
  cases b <;> first | (cases h; rfl) | (cases h; done)
/-- The name of what the operation with slot d makes. -/
abbrev nm (d : Nat) : Nat := 2000000 + d

/-- An operation with a slot to write; xo: the literals that are rows of one's own. -/
def copD (P : Program) (xo : List Nat) (o : Oper) (d : Nat) : Option In :=
  match o.op with
  | .move x => (opd x).bind fun X => some (.mov d X)
  | .assign x => (opd x).bind fun X => some (.mov d X)
  | .pick c x y => (opd c).bind fun C => (opd x).bind fun X => (opd y).bind fun Y => some (.pick d C X Y)
  | .binOp op t x y _ => (opd x).bind fun X => (opd y).bind fun Y =>
    if isEql op && isBool P t then some (.beq d false X Y) else if isNeq op && isBool P t then some (.beq d true X Y)
    else if isEql op && isStruct P t then (flatType P t).bind fun ks => some (.eqs d false ks X Y)
    else if isNeq op && isStruct P t then (flatType P t).bind fun ks => some (.eqs d true ks X Y)
    else some (.bin d op X Y)
  | .unOp op _ x => (opd x).bind fun X => some (.un d op X)
  | .convert t u x => (opd x).bind fun X => (intKind P u).bind fun k => oif (P.underlying t).isSome (some (.cvt d k X))
  | .alloc T => (zsOf P T).bind fun zs => some (.alloc d (nm d) zs)
  | .box T x => (opd x).bind fun X => (szOf P T).bind fun n => some (.box d (nm d) X n)
  | .build T ps => (zsOf P T).bind fun zs => (placeOf P T).bind fun place => (cparts P T place ps.toList).bind fun qs => some (.build d zs qs)
  | .buildSlice T m ps => (sliceElem P T).bind fun e => (szOf P e).bind fun n => (zsOf P e).bind fun zs => (celems ps.toList).bind fun qs =>
    oif (decide (0 < n.getD 1) && (zs.length == n.getD 1) && decide (m * n.getD 1 ≤ 2 ^ 24)) (if m == 0 && qs.isEmpty then some (.mov d (.k .nul)) else
      if xo.contains d then some (.bslx d (nm d) (n.getD 1) n (List.replicate m (zeroElem n zs)) qs) else some (.bsl d (n.getD 1) n (List.replicate m (zeroElem n zs)) qs))
  | .load T x => (tmpOf x).bind fun s => (szOf P T).bind fun n => some (.lod d s n)
  | .fieldAddr S x f => (tmpOf x).bind fun s => (fldOf P S f).bind fun q => some (.fad d s q.1)
  | .indexAddr T x i => (tmpOf x).bind fun s => (opd i).bind fun I => match arrayOf P T with
    | some (m, e) => (szOf P e).bind fun n => some (.iaa d s I m (n.getD 1))
    | none => (sliceElem P T).bind fun e => (szOf P e).bind fun n => some (.iad d s I (n.getD 1))
  | .field T x f => (opd x).bind fun X => (fldOf P T f).bind fun q => some (.fld d X q.1 q.2)
  | .extract x i => (tmpOf x).bind fun s => some (.ext d s i)
  | .index T x i => (opd x).bind fun X => (opd i).bind fun I => match arrayOf P T with
    | some (m, e) => (szOf P e).bind fun n => some (.ida d X I m (n.getD 1) n)
    | none => oif (isString P T) (some (.idx d X I))
  | .slice T x lo hi none => (opd x).bind fun X => (cbound lo).bind fun L => (cbound hi).bind fun H =>
    if isString P T then some (.slcs d X L H) else (sliceElem P T).bind fun e => (szOf P e).bind fun n => some (.slc d X L H (n.getD 1))
  | .makeSlice T x y => (sliceElem P T).bind fun e => (szOf P e).bind fun n => (zsOf P e).bind fun zs => (P.info? e).bind fun i => (opd x).bind fun X =>
    oif (sameOpd x y && decide (0 < n.getD 1) && (zs.length == n.getD 1)) (some (.mks d (nm d) X (n.getD 1) i.bytes (zeroElem n zs)))
  | .makeInterface T x => (opd x).bind fun X => oif (concrete' P T) (some (.ifc d T X))
  | .makeFunc (.func f) first xs => (xs.toList.mapM opd).bind fun Xs => oif first.isEmpty (some (.mkf d f Xs))
  | .nilCheck x => (tmpOf x).bind fun s => some (.nilc d s)
  | .call { callee := .builtin .len, args, argTypes } => match args.toList, argTypes.toList with
    | [x], [T] => (opd x).bind fun X => if isString P T then some (.lens d X) else (sliceElem P T).bind fun _ => some (.len d X)
    | _, _ => none
  | .call { callee := .builtin .append, args, argTypes } => match args.toList, argTypes.toList with
    | [x, y], [T, U] => (opd x).bind fun X => (opd y).bind fun Y => (sliceElem P T).bind fun e => (szOf P e).bind fun n => (zsOf P e).bind fun zs => (P.info? e).bind fun i =>
      oif (decide (0 < n.getD 1) && (zs.length == n.getD 1) && (T == U)) (some (.app d (nm d) X Y (n.getD 1) i.bytes))
    | _, _ => none
  | .call { callee := .builtin b, args, argTypes := _ } => match args.toList with
    | [x, y] => (isMm b).bind fun mx => (opd x).bind fun X => (opd y).bind fun Y => some (.mm d mx X Y)
    | _ => none
  | _ => none

/-- A call. -/
def ccall (P : Program) (o : Oper) (d : Nat) : Option In :=
  match o.op with
  | .call { callee := .value (.func f), args, argTypes := _ } => (args.toList.mapM opd).bind fun xs => oif (enters P f) (some (.call d f xs))
  | .call { callee := .value x, args, argTypes := _ } => (opd x).bind fun X => (args.toList.mapM opd).bind fun xs => some (.cal d X xs)
  | .call { callee := .invoke x name, args, argTypes := _ } => (opd x).bind fun X => (args.toList.mapM opd).bind fun xs => some (.inv d X name xs)
  | _ => none

/-- An operation, with or without a slot to write. -/
def cop (P : Program) (N : Nat) (xo : List Nat) (o : Oper) : Option In :=
  match o.dst with
  | some d => oif (decide (d < N)) (copD P xo o d)
  | none => match o.op with
    | .store T s x => (tmpOf s).bind fun s => (szOf P T).bind fun n => (opd x).bind fun X => oif (decide (0 < n.getD 1)) (some (.sto s X n))
    | _ => none

section
variable {P : Program} {G : Ctx} {σ : Env} {xo : List Nat} {o : Oper} {d : Nat} {ins : In}

/-- An empty literal. -/
theorem in_bsl0 {T e k : Nat} {n : Option Nat} {zs : List D} {ps : Array (Nat × Operand)} {qs : List (Nat × Opd)} (ho : o.op = .buildSlice T k ps) (hT : P.underlying T = some (.slice e)) (hsz : szOf P e = some n) (h0 : 0 < n.getD 1)
    (hz : zsOf P e = some zs) (hn : zs.length = n.getD 1) (hq : Elems ps.toList qs) (hk : k = 0) (hqs : qs = []) (hdst : o.dst = some d) (hd : d < G.n) : OpOK P G o (In.ent σ (.mov d (.k .nul))) σ (In.upd σ (.mov d (.k .nul))) := by
  subst hk hqs
  refine .of_run (fun p hp => ?_) (fun τ a w F m hag hR => ?_)
  · obtain rfl := List.mem_singleton.1 hp; exact List.mem_singleton.2 rfl
  · obtain ⟨ys, hrun, _⟩ := run_bsl (σ := σ) ho hT hsz h0 hz hn (by omega) hq hR (fun t ht => by cases ht) trivial
    have hR1 : RelF G τ a.tmps (w.alloc (.cells ys.toArray e)) F m :=
      have c := Chg.alloc0 hR.wf (.cells ys.toArray e)
      ⟨hR.size, hR.nle, fun t ht => (hR.slots t ht).still c, fun g hg => (hR.blks g hg).stable c (fun _ _ h => h) (fun e => by have := hR.blks g hg; rw [e] at this; exact this) (fun _ _ _ => id), hR.inj, wf_alloc hR.wf _, hR.chg.trans c (fun _ h => h.elim), hR.own, hR.par⟩
    refine ⟨_, _, _, F, m, hrun, .inl rfl, ?_⟩
    rw [hdst]
    exact hR1.slot hd (.nul m _)

theorem copD_ok (h : copD P xo o d = some ins) (hdst : o.dst = some d) (hd : d < G.n) (hok : ins.ok σ) : OpOK P G o (ins.ent σ) σ (ins.upd σ) := by
  unfold copD at h
  split at h
  case h_1 x ho =>
    simp only [Option.bind_eq_some_iff, Option.some.injEq] at h
    obtain ⟨X, hX, rfl⟩ := h
    exact in_mov (.inl ho) hX hdst hd
  case h_2 x ho =>
    simp only [Option.bind_eq_some_iff, Option.some.injEq] at h
    obtain ⟨X, hX, rfl⟩ := h
    exact in_mov (.inr ho) hX hdst hd
  case h_3 c x y ho =>
    simp only [Option.bind_eq_some_iff, Option.some.injEq] at h
    obtain ⟨C, hC, X, hX, Y, hY, rfl⟩ := h
    exact in_pick ho hC hX hY hdst hd hok
  case h_4 op t x y t' ho =>
    simp only [Option.bind_eq_some_iff] at h
    obtain ⟨X, hX, Y, hY, h⟩ := h
    split at h
    · rename_i hc
      obtain rfl := Option.some.inj h
      rw [Bool.and_eq_true] at hc
      rw [isEql_eq hc.1] at ho
      exact in_beq (neg := false) ho (isBool_some hc.2) hX hY hdst hd hok
    · split at h
      · rename_i hc
        obtain rfl := Option.some.inj h
        rw [Bool.and_eq_true] at hc
        rw [isNeq_eq hc.1] at ho
        exact in_beq (neg := true) ho (isBool_some hc.2) hX hY hdst hd hok
      · split at h
        · rename_i hc
          simp only [Option.bind_eq_some_iff, Option.some.injEq] at h
          obtain ⟨ks, hks, rfl⟩ := h
          rw [Bool.and_eq_true] at hc
          rw [isEql_eq hc.1] at ho
          exact in_eqs (neg := false) ho hks hX hY hdst hd hok
        · split at h
          · rename_i hc
            simp only [Option.bind_eq_some_iff, Option.some.injEq] at h
            obtain ⟨ks, hks, rfl⟩ := h
            rw [Bool.and_eq_true] at hc
            rw [isNeq_eq hc.1] at ho
            exact in_eqs (neg := true) ho hks hX hY hdst hd hok
          · obtain rfl := Option.some.inj h
            exact in_bin ho hX hY hdst hd hok
  case h_5 op t x ho =>
    simp only [Option.bind_eq_some_iff, Option.some.injEq] at h
    obtain ⟨X, hX, rfl⟩ := h
    exact in_un ho hX hdst hd hok
  case h_6 t u x ho =>
    simp only [Option.bind_eq_some_iff, oif_some, Option.some.injEq] at h
    obtain ⟨X, hX, k, hu, ht, rfl⟩ := h
    obtain ⟨td, ht⟩ := Option.isSome_iff_exists.1 ht
    exact in_cvt ho ht (intKind_some hu) hX hdst hd hok
  case h_7 T ho =>
    simp only [Option.bind_eq_some_iff, Option.some.injEq] at h
    obtain ⟨zs, hz, rfl⟩ := h
    exact in_alloc ho hz hdst hd hok
  case h_8 T x ho =>
    simp only [Option.bind_eq_some_iff, Option.some.injEq] at h
    obtain ⟨X, hX, n, _, rfl⟩ := h
    exact in_box ho hX hdst hd hok
  case h_9 T ps ho =>
    simp only [Option.bind_eq_some_iff, Option.some.injEq] at h
    obtain ⟨zs, hz, place, hp, qs, hq, rfl⟩ := h
    exact in_build ho hz hp (cparts_ok hq) hdst hd hok
  case h_10 T m ps ho =>
    simp only [Option.bind_eq_some_iff, oif_some, Bool.and_eq_true, decide_eq_true_eq, beq_iff_eq] at h
    obtain ⟨e, he, n, hn, zs, hz, qs, hq, ⟨⟨h0, h1⟩, h2⟩, h⟩ := h
    split at h
    · rename_i hc
      obtain rfl := Option.some.inj h
      exact in_bsl0 ho (sliceElem_some he) hn h0 hz h1 (celems_ok hq) hc.1 (List.isEmpty_iff.1 hc.2) hdst hd
    · split at h
      · obtain rfl := Option.some.inj h
        exact in_bslx ho (sliceElem_some he) hn h0 hz h1 h2 (celems_ok hq) hdst hd hok
      · obtain rfl := Option.some.inj h
        exact in_bsl ho (sliceElem_some he) hn h0 hz h1 h2 (celems_ok hq) hdst hd hok
  case h_11 T x ho =>
    simp only [Option.bind_eq_some_iff, Option.some.injEq] at h
    obtain ⟨s, hs, n, hn, rfl⟩ := h
    obtain ⟨rfl, hs'⟩ := tmpOf_some hs
    exact in_lod ho hs' hn hdst hd hok
  case h_12 S x f ho =>
    simp only [Option.bind_eq_some_iff, Option.some.injEq] at h
    obtain ⟨s, hs, ⟨q, n⟩, hq, rfl⟩ := h
    obtain ⟨rfl, hs'⟩ := tmpOf_some hs
    exact in_fad ho hs' hq hdst hd hok
  case h_13 T x i ho =>
    simp only [Option.bind_eq_some_iff] at h
    obtain ⟨s, hs, I, hI, h⟩ := h
    obtain ⟨rfl, hs'⟩ := tmpOf_some hs
    split at h
    · rename_i m e he
      simp only [Option.bind_eq_some_iff, Option.some.injEq] at h
      obtain ⟨n, hn, rfl⟩ := h
      exact in_iaa ho hs' (arrayOf_some he) hn hI hdst hd hok
    · simp only [Option.bind_eq_some_iff, Option.some.injEq] at h
      obtain ⟨e, he, n, hn, rfl⟩ := h
      exact in_iad ho hs' (sliceElem_some he) hn hI hdst hd hok
  case h_14 T x f ho =>
    simp only [Option.bind_eq_some_iff, Option.some.injEq] at h
    obtain ⟨X, hX, ⟨q, n⟩, hq, rfl⟩ := h
    exact in_fld ho hq hX hdst hd hok
  case h_15 x i ho =>
    simp only [Option.bind_eq_some_iff, Option.some.injEq] at h
    obtain ⟨s, hs, rfl⟩ := h
    obtain ⟨rfl, hs'⟩ := tmpOf_some hs
    exact in_ext ho hs' hdst hd hok
  case h_16 T x i ho =>
    simp only [Option.bind_eq_some_iff] at h
    obtain ⟨X, hX, I, hI, h⟩ := h
    split at h
    · rename_i m e he
      simp only [Option.bind_eq_some_iff, Option.some.injEq] at h
      obtain ⟨n, hn, rfl⟩ := h
      exact in_ida ho (arrayOf_some he) hn hX hI hdst hd hok
    · simp only [oif_some, Option.some.injEq] at h
      obtain ⟨hT, rfl⟩ := h
      exact in_idx ho (isString_some hT) hX hI hdst hd hok
  case h_17 T x lo hi ho =>
    simp only [Option.bind_eq_some_iff] at h
    obtain ⟨X, hX, L, hL, H, hH, h⟩ := h
    split at h
    · rename_i hT
      obtain rfl := Option.some.inj h
      exact in_slcs ho (isString_some hT) hX (cbound_ok hL) (cbound_ok hH) hdst hd hok
    · simp only [Option.bind_eq_some_iff, Option.some.injEq] at h
      obtain ⟨e, he, n, hn, rfl⟩ := h
      exact in_slc ho (sliceElem_some he) hn rfl hX (cbound_ok hL) (cbound_ok hH) hdst hd hok
  case h_18 T x y ho =>
    simp only [Option.bind_eq_some_iff, oif_some, Option.some.injEq, Bool.and_eq_true, decide_eq_true_eq, beq_iff_eq] at h
    obtain ⟨e, he, n, hn, zs, hz, i, hi, X, hX, ⟨⟨h0, h1⟩, h2⟩, rfl⟩ := h
    obtain rfl := sameOpd_eq h0
    exact in_mks ho (sliceElem_some he) hn h1 hz h2 hi rfl hX hdst hd hok
  case h_19 T x ho =>
    simp only [Option.bind_eq_some_iff, oif_some, Option.some.injEq] at h
    obtain ⟨X, hX, hT, rfl⟩ := h
    unfold concrete' at hT
    split at hT
    · cases hT
    · rename_i u hn hu
      exact in_ifc ho hu (fun m e => hn m e) hX hdst hd
    · cases hT
  case h_20 f first xs ho =>
    simp only [Option.bind_eq_some_iff, oif_some, Option.some.injEq, Array.isEmpty_iff] at h
    obtain ⟨Xs, hX, rfl, rfl⟩ := h
    exact in_mkf ho hX hdst hd
  case h_21 x ho =>
    simp only [Option.bind_eq_some_iff, Option.some.injEq] at h
    obtain ⟨s, hs, rfl⟩ := h
    obtain ⟨rfl, hs'⟩ := tmpOf_some hs
    exact in_nilc ho hs' hdst hd hok
  case h_22 args ts ho =>
    split at h
    · rename_i x T ha ht
      obtain rfl : args = #[x] := by apply Array.ext'; simpa using ha
      obtain rfl : ts = #[T] := by apply Array.ext'; simpa using ht
      simp only [Option.bind_eq_some_iff] at h
      obtain ⟨X, hX, h⟩ := h
      split at h
      · rename_i hT
        obtain rfl := Option.some.inj h
        exact in_lens ho (isString_some hT) hX hdst hd hok
      · simp only [Option.bind_eq_some_iff, Option.some.injEq] at h
        obtain ⟨e, he, rfl⟩ := h
        exact in_len ho (sliceElem_some he) hX hdst hd hok
    · cases h
  case h_23 args ts ho =>
    split at h
    · rename_i x y T U ha ht
      obtain rfl : args = #[x, y] := by apply Array.ext'; simpa using ha
      obtain rfl : ts = #[T, U] := by apply Array.ext'; simpa using ht
      simp only [Option.bind_eq_some_iff, oif_some, Option.some.injEq, Bool.and_eq_true, decide_eq_true_eq, beq_iff_eq] at h
      obtain ⟨X, hX, Y, hY, e, he, n, hn, zs, hz, i, hi, ⟨⟨h0, h1⟩, h2⟩, rfl⟩ := h
      subst h2
      exact in_app ho (sliceElem_some he) hn rfl h0 hz h1 hi rfl hX hY hdst hd hok
    · cases h
  case h_24 b args ts _ _ ho =>
    split at h
    · rename_i x y ha
      obtain rfl : args = #[x, y] := by apply Array.ext'; simpa using ha
      simp only [Option.bind_eq_some_iff, Option.some.injEq] at h
      obtain ⟨mx, hb, X, hX, Y, hY, rfl⟩ := h
      rw [isMm_eq hb] at ho
      exact in_mm ho hX hY hdst hd hok
    · cases h
  case h_25 => cases h

theorem ccall_call {d' f : Nat} {xs : List Opd} (h : ccall P o d = some (.call d' f xs)) : d' = d ∧ enters P f = true ∧ ∃ (ops : Array Operand) (ts : Array TypeId), o.op = .call { callee := .value (.func f), args := ops, argTypes := ts } ∧ ops.toList.mapM opd = some xs := by
  unfold ccall at h
  split at h
  · rename_i f' args ts ho
    simp only [Option.bind_eq_some_iff, oif_some, Option.some.injEq, In.call.injEq] at h
    obtain ⟨xs, hx, hf, rfl, rfl, rfl⟩ := h
    exact ⟨rfl, hf, args, ts, ho, hx⟩
  · simp only [Option.bind_eq_some_iff, Option.some.injEq, reduceCtorEq, and_false, exists_false] at h
  · simp only [Option.bind_eq_some_iff, Option.some.injEq, reduceCtorEq, and_false, exists_false] at h
  · cases h
theorem ccall_cal {d' : Nat} {X : Opd} {xs : List Opd} (h : ccall P o d = some (.cal d' X xs)) : d' = d ∧ ∃ (x : Operand) (ops : Array Operand) (ts : Array TypeId), o.op = .call { callee := .value x, args := ops, argTypes := ts } ∧ opd x = some X ∧ ops.toList.mapM opd = some xs := by
  unfold ccall at h
  split at h
  · simp only [Option.bind_eq_some_iff, oif_some, Option.some.injEq, reduceCtorEq, and_false, exists_false] at h
  · rename_i x args ts _ ho
    simp only [Option.bind_eq_some_iff, Option.some.injEq, In.cal.injEq] at h
    obtain ⟨X, hX, xs, hx, rfl, rfl, rfl⟩ := h
    exact ⟨rfl, x, args, ts, ho, hX, hx⟩
  · simp only [Option.bind_eq_some_iff, Option.some.injEq, reduceCtorEq, and_false, exists_false] at h
  · cases h
theorem ccall_inv {d' : Nat} {X : Opd} {name : String} {xs : List Opd} (h : ccall P o d = some (.inv d' X name xs)) : d' = d ∧ ∃ (x : Operand) (ops : Array Operand) (ts : Array TypeId), o.op = .call { callee := .invoke x name, args := ops, argTypes := ts } ∧ opd x = some X ∧ ops.toList.mapM opd = some xs := by
  unfold ccall at h
  split at h
  · simp only [Option.bind_eq_some_iff, oif_some, Option.some.injEq, reduceCtorEq, and_false, exists_false] at h
  · simp only [Option.bind_eq_some_iff, Option.some.injEq, reduceCtorEq, and_false, exists_false] at h
  · rename_i x name' args ts ho
    simp only [Option.bind_eq_some_iff, Option.some.injEq, In.inv.injEq] at h
    obtain ⟨X, hX, xs, hx, rfl, rfl, rfl, rfl⟩ := h
    exact ⟨rfl, x, args, ts, ho, hX, hx⟩
  · cases h

theorem cop_ok (h : cop P G.n xo o = some ins) (hok : ins.ok σ) : OpOK P G o (ins.ent σ) σ (ins.upd σ) := by
  unfold cop at h
  cases hd : o.dst with
  | some d =>
    rw [hd] at h
    simp only [oif_some, decide_eq_true_eq] at h
    exact copD_ok h.2 hd h.1 hok
  | none =>
    rw [hd] at h
    simp only at h
    split at h
    · rename_i T s x ho
      simp only [Option.bind_eq_some_iff, oif_some, Option.some.injEq, decide_eq_true_eq] at h
      obtain ⟨t, ht, n, hn, X, hX, h0, rfl⟩ := h
      obtain ⟨rfl, ht'⟩ := tmpOf_some ht
      exact in_sto ho ht' hn h0 hX hd hok
    · cases h

end
end Go.Proofs.Ytimpofjjndbofaa
