/-
  Code on plain data: what a piece of code asks of the slots and leaves in them; a piece of the program's code does what its reading says; a function does what its code says. No condition.
-/
import Derived.Test.YtimpofjjndbofaaVRegn
import Derived.LoopN
import Derived.Scope
namespace Go.Proofs.Ytimpofjjndbofaa
open Go.RowKit

inductive DC where
  | skip
  | reg (gis : List GI) (B : Option (List Nat))
  | seq (a b : DC)
  | cond (c : Opd) (a b : DC)
  | block (id : Nat) (c : DC)
  | loop (c : DC)
  | exit (id : Nat)
  | ret

def acc0 : Option (List Nat) → Option (List Ent)
  | some _ => some []
  | none => none

/-- k: how many names were handed over. -/
def dwp (P : Program) (k : Nat) : DC → Env → (Env → Prop) → (Nat → Env → Prop) → (Env → Prop) → Prop
  | .skip, σ, N, _, _ => N σ
  | .reg gis B, σ, N, _, _ => evG P (B.getD []) gis σ (acc0 B) N
  | .seq a b, σ, N, X, R => dwp P k a σ (fun τ => dwp P k b τ N X R) X R
  | .cond c a b, σ, N, X, R => match c.val σ with
    | .v (.bool q) => (q = true → dwp P k a σ N X R) ∧ (q = false → dwp P k b σ N X R)
    | _ => False
  | .block id c, σ, N, X, R => dwp P k c σ N (fun i τ => if i = id then N τ else X i τ) R
  | .loop c, σ, _, X, R => ∃ (ι : Type) (I : ι → Env) (J : ι → Prop) (m : ι → Nat) (i : ι), J i ∧ Wk k σ (I i) ∧ ∀ i, J i → dwp P k c (I i) (fun τ => ∃ j, J j ∧ m j < m i ∧ Wk k τ (I j)) X R
  | .exit id, σ, _, X, _ => X id σ
  | .ret, σ, _, _, R => R σ

def cdc (P : Program) (N : Nat) (xo : List Nat) : Code → Option DC
  | .skip => some .skip
  | .label _ => some .skip
  | .region _ ops draw => (cgis P N xo ops ops.toList).bind fun gis => if draw then oif (edgesOk 0 ops.toList) (some (.reg gis (some (clo ops.toList [])))) else some (.reg gis none)
  | .seq a b => (cdc P N xo a).bind fun x => (cdc P N xo b).bind fun y => some (.seq x y)
  | .cond c a b => (opd c).bind fun C => (cdc P N xo a).bind fun x => (cdc P N xo b).bind fun y => some (.cond C x y)
  | .block id c => (cdc P N xo c).bind fun x => some (.block id x)
  | .loop c => (cdc P N xo c).bind fun x => some (.loop x)
  | .scope c => cdc P N xo c
  | .exit id => some (.exit id)
  | .ret => some .ret
  | _ => none

section
variable {P : Program} {G : Ctx}

theorem getD_falses (n k : Nat) : (Array.replicate n false).getD k false = false := by
  simp only [Array.getD_eq_getD_getElem?, Array.getElem?_replicate]
  split <;> rfl

def post (G : Ctx) (N : Env → Prop) (X : Nat → Env → Prop) (R : Env → Prop) : Exit → Act → World → Prop
  | .normal, a, w => ∃ τ, Rel G τ a w ∧ N τ
  | .exit id, a, w => ∃ τ, Rel G τ a w ∧ X id τ
  | .ret, a, w => ∃ τ, Rel G τ a w ∧ R τ
  | _, _, _ => False

/-- In the order of the text. -/
theorem line_ok {ops : Array Oper} {Q : Exit → Act → World → Prop} : ∀ (es : List Entry) (i : Nat) (σ : Env) (a : Act) (w : World), Chain P ops G i σ es → Rel G σ a w →
    (∀ a' w', Rel G (stOf es (fun _ => true) i σ) a' w' → Q .normal a' w') → wpOps P ops Q (List.range' i (ops.size - i)) a w
  | [], i, σ, a, w, hc, hR, hQ => by
    have hi : i = ops.size := hc
    rw [hi, Nat.sub_self]
    exact hQ a w hR
  | e :: es, i, σ, a, w, hc, hR, hQ => by
    have hsz := hc.size
    rw [List.length_cons] at hsz
    rw [show ops.size - i = (ops.size - (i + 1)) + 1 by omega, List.range'_succ, wpOps_cons]
    exact hc.1.run σ a w _ Q (fun t _ => rfl) hR (fun a' w' hR' => line_ok es (i + 1) _ a' w' hc.2 hR' hQ)

theorem dwp_ok {xo : List Nat} (hm : P.follows .mixedOrders = true) (c : Code) : ∀ (dc : DC) (σ : Env) (a : Act) (w : World) (N : Env → Prop) (X : Nat → Env → Prop) (R : Env → Prop),
    cdc P G.n xo c = some dc → Rel G σ a w → dwp P G.k dc σ N X R → c.wp P (post G N X R) a w := by
  induction c with
  | skip => intro dc σ a w N X R h hR hd
            obtain rfl : DC.skip = dc := by simpa [cdc] using h
            exact wp_skip ⟨σ, hR, hd⟩
  | label l => intro dc σ a w N X R h hR hd
               obtain rfl : DC.skip = dc := by simpa [cdc] using h
               exact wp_label ⟨σ, hR, hd⟩
  | region id ops draw =>
    intro dc σ a w N X R h hR hd
    simp only [cdc, Option.bind_eq_some_iff] at h
    obtain ⟨gis, hg, h⟩ := h
    have hev : ∃ B, evG P (B.getD []) gis σ (acc0 B) N ∧ (draw = true → edgesOk 0 ops.toList = true ∧ B = some (clo ops.toList [])) := by
      cases draw with
      | true =>
        simp only [if_true, oif_some, Option.some.injEq] at h
        obtain ⟨he, rfl⟩ := h
        exact ⟨some (clo ops.toList []), hd, fun _ => ⟨he, rfl⟩⟩
      | false =>
        simp only [Bool.false_eq_true, if_false, Option.some.injEq] at h
        subst h
        exact ⟨none, hd, (fun e => by cases e)⟩
    obtain ⟨B, hev, hB⟩ := hev
    obtain ⟨es, hch, hN, hok⟩ := gis_ok (G := G) ops.toList gis 0 σ _ (by simp) (by omega) hg hev
    have fin : ∀ a' w', Rel G (stOf es (fun _ => true) 0 σ) a' w' → post G N X R .normal a' w' := fun a' w' hR' => ⟨_, hR', hN⟩
    cases draw with
    | true =>
      obtain ⟨he, rfl⟩ := hB rfl
      refine wp_region_any hm ?_
      have h0 : (stOf es (fun k => (Array.replicate ops.size false).getD k false) 0 σ) = σ := by
        funext t
        exact stOf_still _ _ _ _ _ (fun k p _ _ => getD_falses _ _)
      refine any_of_chain hch (hok [] rfl) he fin ops.size _ a _ (by simp) ?_ (fun k o hk => ?_) (by rw [h0]; exact hR.drew)
      · exact Nat.le_trans List.countP_le_length (by rw [List.length_range]; exact Nat.le_refl _)
      · rw [getD_falses] at hk; cases hk
    | false =>
      refine wp_region ?_
      have := line_ok (Q := post G N X R) es 0 σ a w hch hR fin
      rw [Nat.sub_zero, ← List.range_eq_range'] at this
      exact this
  | seq c d ihc ihd =>
    intro dc σ a w N X R h hR hd
    simp only [cdc, Option.bind_eq_some_iff, Option.some.injEq] at h
    obtain ⟨x, hx, y, hy, rfl⟩ := h
    refine wp_seq (wp_mono (ihc x σ a w _ X R hx hR hd) ?_)
    intro e a' w' hp
    cases e with
    | normal =>
      obtain ⟨τ, hR', hd'⟩ := hp
      exact ihd y τ a' w' N X R hy hR' hd'
    | _ => exact hp
  | cond t c d ihc ihd =>
    intro dc σ a w N X R h hR hd
    simp only [cdc, Option.bind_eq_some_iff, Option.some.injEq] at h
    obtain ⟨C, hC, x, hx, y, hy, rfl⟩ := h
    simp only [dwp] at hd
    cases hv : C.val σ with
    | v b =>
      rw [hv] at hd
      cases b with
      | bool q =>
        obtain ⟨_, F, m, hRF⟩ := id hR
        have he := opd_v hRF hC (fun _ _ => rfl) hv
        refine wp_cond_split he (fun hq => ihc x σ a w N X R hx hR (hd.1 hq)) (fun hq => ihd y σ a w N X R hy hR (hd.2 hq))
      | _ => exact hd.elim
    | _ => rw [hv] at hd; exact hd.elim
  | block id c ih =>
    intro dc σ a w N X R h hR hd
    simp only [cdc, Option.bind_eq_some_iff, Option.some.injEq] at h
    obtain ⟨x, hx, rfl⟩ := h
    refine wp_block (wp_mono (ih x σ a w _ _ R hx hR hd) ?_)
    intro e a' w' hp
    cases e with
    | exit i =>
      obtain ⟨τ, hR', hd'⟩ := hp
      simp only [Exit.inBlock]
      split
      · rename_i e; rw [if_pos e] at hd'; exact ⟨τ, hR', hd'⟩
      · rename_i e; rw [if_neg e] at hd'; exact ⟨τ, hR', hd'⟩
    | _ => exact hp
  | loop c ih =>
    intro dc σ a w N X R h hR hd
    simp only [cdc, Option.bind_eq_some_iff, Option.some.injEq] at h
    obtain ⟨x, hx, rfl⟩ := h
    obtain ⟨ι, I, J, m, i, hJ, hle, hround⟩ := hd
    have key : ∀ (n : Nat) (i : ι) (a : Act) (w : World), m i < n → J i → Rel G (I i) a w → Code.rounds P c (post G N X R) n a w := by
      intro n
      induction n with
      | zero => intro i a w h; omega
      | succ n ihn =>
        intro i a w hlt hJ hR
        rw [rounds_succ]
        refine wp_mono (ih x (I i) a w _ X R hx hR (hround i hJ)) ?_
        intro e a' w' hp
        cases e with
        | normal =>
          obtain ⟨τ, hR', j, hJ', hmj, hle'⟩ := hp
          exact ihn j a' w' (by omega) hJ' (hle' G a' w' rfl hR')
        | _ => exact hp
    exact wp_loop_rounds (m i + 1) (key _ i a w (by omega) hJ (hle G a w rfl hR))
  | exit id => intro dc σ a w N X R h hR hd
               obtain rfl : DC.exit id = dc := by simpa [cdc] using h
               exact wp_exit ⟨σ, hR, hd⟩
  | scope c ih =>
    intro dc σ a w N X R h hR hd
    refine wp_scope_straight (wp_mono (ih dc σ a w N X R h hR hd) ?_)
    intro e a' w' hp
    cases e with
    | goto l => exact hp
    | _ => exact hp
  | ret => intro dc σ a w N X R h hR hd
           obtain rfl : DC.ret = dc := by simpa [cdc] using h
           exact wp_ret ⟨σ, hR, hd⟩
  | _ => intro dc σ a w N X R h; simp [cdc] at h

/-- One result: a slot's datum, or what lies in a cell of one's own. -/
inductive Res where
  | tmp (t : Nat)
  | cell (a : Nat) (n : Option Nat)
def cres (P : Program) : ResultVar → Option Res
  | .tmp t => oif (decide (t < nb)) (some (.tmp t))
  | .cell a T => (szOf P T).bind fun n => oif (decide (a < nb)) (some (.cell a n))
def Res.val (σ : Env) : Res → D
  | .tmp t => σ t
  | .cell a n => D.getC (ptrC σ a) (ptrO σ a) n
def Res.ok (σ : Env) : Res → Prop
  | .tmp _ => True
  | .cell a n => ptrOk σ a ∧ D.getCok (ptrC σ a) (ptrO σ a) n
def resD (σ : Env) : List Res → D
  | [x] => x.val σ
  | l => .tup (l.map (Res.val σ))
def resOk (σ : Env) : List Res → Prop
  | [] => True
  | x :: l => x.ok σ ∧ resOk σ l

/-- How a result is read. -/
def readRes (tm : Array Value) : ResultVar → Sem Value
  | .tmp t => pure (tm.getD t undef)
  | .cell a t => do loadVar t (← asAddr (tm.getD a undef))

theorem resOne_run {σ : Env} {a : Act} {w : World} {F : Cells} {m : Names} (hR : RelF G σ a.tmps w F m) {x : ResultVar} {y : Res} (hx : cres P x = some y) (h : y.ok σ) :
    ∃ v, (readRes a.tmps x).run P w = .ok v w ∧ Fz w F m (y.val σ) v := by
  cases x with
  | tmp t =>
    simp only [cres, oif_some, decide_eq_true_eq, Option.some.injEq] at hx
    obtain ⟨ht, rfl⟩ := hx
    exact ⟨_, rfl, hR.slots t ht⟩
  | cell s T =>
    simp only [cres, Option.bind_eq_some_iff, oif_some, decide_eq_true_eq, Option.some.injEq] at hx
    obtain ⟨n, hsz, hs, rfl⟩ := hx
    obtain ⟨b, q, us, hxe, hc, hu⟩ := ptr_at hR hs (fun _ _ => rfl) h.1
    obtain ⟨v, hv, h1, h2⟩ := getC_val hc h.2
    refine ⟨v, ?_, hv⟩
    have hxe' : a.tmps.getD s undef = .pointer (some ⟨b, q + ptrO σ s, none⟩) := hxe
    cases n with
    | none =>
      have := run_loadVar1 (P := P) hsz w ⟨b, q + ptrO σ s, none⟩ v (hu _ _ (h1 rfl))
      simp [readRes, hxe', asAddr, this]
    | some n =>
      obtain ⟨rfl, hle⟩ := h2 n rfl
      have := run_loadVarN (P := P) hsz w b (q + ptrO σ s) ((us.drop (ptrO σ s)).take n) (by simp; omega) (fun j v hj => by
        rw [List.getElem?_take] at hj
        split at hj
        · rw [List.getElem?_drop] at hj
          rw [Nat.add_assoc]
          exact hu _ v hj
        · cases hj)
      simp [readRes, hxe', asAddr, this]

theorem resAll_run {σ : Env} {a : Act} {w : World} {F : Cells} {m : Names} (hR : RelF G σ a.tmps w F m) : ∀ (rs : List ResultVar) (ys : List Res), rs.mapM (cres P) = some ys → resOk σ ys →
    ∃ vs, (rs.mapM (readRes a.tmps)).run P w = .ok vs w ∧ vs.length = ys.length ∧ ys.length = rs.length ∧ ∀ (i : Nat) (d : D) (v : Value), (ys.map (Res.val σ))[i]? = some d → vs[i]? = some v → Fz w F m d v
  | [], ys, hy, h => by
    obtain rfl : [] = ys := by simpa using hy
    exact ⟨[], rfl, rfl, rfl, fun i d v hd => by simp at hd⟩
  | x :: l, ys, hy, h => by
    simp only [List.mapM_cons, Option.bind_eq_bind, Option.pure_def, Option.bind_eq_some_iff, Option.some.injEq] at hy
    obtain ⟨y, hx, zs, hl, rfl⟩ := hy
    obtain ⟨v, hv, hf⟩ := resOne_run hR hx h.1
    obtain ⟨vs, hrun, h1, h2, h3⟩ := resAll_run hR l zs hl h.2
    refine ⟨v :: vs, ?_, by simp [h1], by simp [h2], fun i e u he hu => ?_⟩
    · simp [List.mapM_cons, hv, hrun]
    · cases i with
      | zero =>
        obtain rfl : y.val σ = e := by simpa using he
        obtain rfl : v = u := by simpa using hu
        exact hf
      | succ i => exact h3 i e u (by simpa using he) (by simpa using hu)

theorem results_eq (fn : Func) (tm : Array Value) : results fn tm = (do let vs ← fn.results.mapM (readRes tm); pure (if h : vs.size = 1 then vs[0] else .tuple vs)) := by
  unfold results
  have : (fun x : ResultVar => match x with
    | .tmp t => pure (tm.getD t undef)
    | .cell a t => do loadVar t (← asAddr (tm.getD a undef)) : ResultVar → Sem Value) = readRes tm := by
    funext x
    cases x <;> rfl
  rw [← this]
  rfl

theorem res_run {σ : Env} {a : Act} {w : World} {F : Cells} {m : Names} (hR : RelF G σ a.tmps w F m) (fn : Func) {ys : List Res} (hy : fn.results.toList.mapM (cres P) = some ys) (h : resOk σ ys) :
    ∃ v, (results fn a.tmps).run P w = .ok v w ∧ Fz w F m (resD σ ys) v := by
  rw [results_eq]
  obtain ⟨vs, hrun, h1, h2, h3⟩ := resAll_run hR _ _ hy h
  have harr : (fn.results.mapM (readRes a.tmps)).run P w = .ok vs.toArray w := by
    rw [Array.mapM_eq_mapM_toList]
    simp [hrun]
  have many : ys.length ≠ 1 → ∃ v, (do let vs ← fn.results.mapM (readRes a.tmps); pure (if h : vs.size = 1 then vs[0] else .tuple vs) : Sem Value).run P w = .ok v w ∧ Fz w F m (.tup (ys.map (Res.val σ))) v := by
    intro hne
    refine ⟨.tuple vs.toArray, ?_, .tup m _ vs (by simp [h1]) (fun i d u hd hu => h3 i d u hd hu)⟩
    have hne' : ¬ vs.toArray.size = 1 := by simp [h1]; exact hne
    simp only [Sem.run_bind, harr, Result.andThen_ok, Sem.run_pure, dif_neg hne']
  match ys, h1, h2, h3, many with
  | [], _, _, _, many => exact many (by simp)
  | [y], h1, _, h3, _ =>
    match vs, h1, h3, harr with
    | [v], _, h3, harr =>
      refine ⟨v, ?_, h3 0 _ v rfl rfl⟩
      simp only [Sem.run_bind, harr, Result.andThen_ok, Sem.run_pure]
      rfl
  | _ :: _ :: _, _, _, _, many => exact many (by simp)

/-- A function's slots, code and results. -/
def cfun (P : Program) (xo : List Nat) (f : FuncId) : Option (Nat × DC × List Res) :=
  match P.funcs[f]? with
  | some fn => match fn.body with
    | some c => (cdc P fn.ntmps xo c).bind fun dc => (fn.results.toList.mapM (cres P)).bind fun rs => oif (decide (fn.ntmps ≤ nb)) (some (fn.ntmps, dc, rs))
    | none => none
  | none => none

/-- What one datum says, the other says too. -/
def Sub (d e : D) : Prop := ∀ (w : World) (F : Cells) (m : Names) (x : Value), Fz w F m d x → Fz w F m e x
/-- What a function leaves behind: its result and blocks, under names told by L. -/
structure FinOK (k : Nat) (rs : List Res) (r : D) (H' : List D) (L : List Nat) (τ : Env) : Prop where
  ok : resOk τ rs
  res : Sub (resD τ rs) (r.ren L)
  len : L.length = H'.length
  can : canB k L = true
  blk : ∀ (i : Nat) (d : D) (g : Nat), H'[i]? = some d → L[i]? = some g → d = .any ∨ (d.isBlk = true ∧ τ g = d.ren L)
def Fin (k : Nat) (rs : List Res) (r : D) (H' : List D) (τ : Env) : Prop := ∃ τ' L, Wk k τ τ' ∧ FinOK k rs r H' L τ'

/-- The slots and names at a function's entry. -/
def entL : Nat → List D → Env → Env
  | _, [], σ => σ
  | i, d :: l, σ => (entL (i + 1) l σ).set i d
def ent (H ds : List D) : Env := entL 0 ds (entL nb H (base 0))
theorem entL_at : ∀ (ds : List D) (i t : Nat) (σ : Env), entL i ds σ t = if i ≤ t ∧ t < i + ds.length then ds.getD (t - i) .any else σ t
  | [], i, t, σ => by rw [entL, if_neg (by simp)]
  | d :: ds, i, t, σ => by
    rw [entL]
    by_cases e : t = i
    · subst e; rw [Env.set_same, if_pos ⟨Nat.le_refl _, by simp⟩]; simp
    · rw [Env.set_ne _ _ _ _ e, entL_at ds (i + 1) t]
      by_cases h : i + 1 ≤ t ∧ t < i + 1 + ds.length
      · rw [if_pos h, if_pos (by simp; omega), show t - i = (t - (i + 1)) + 1 by omega]
        simp
      · rw [if_neg h, if_neg (by simp; omega)]

theorem does_of {xo : List Nat} {f : FuncId} {n : Nat} {dc : DC} {rs : List Res} (hc : cfun P xo f = some (n, dc, rs)) (hm : P.follows .mixedOrders = true) {H ds H' : List D} {r : D} (hl : ds.length ≤ n)
    (hd : dwp P H.length dc (ent H ds) (Fin H.length rs r H') (fun _ _ => False) (Fin H.length rs r H')) : Does P f H ds r H' := by
  unfold cfun at hc
  split at hc
  rotate_left
  · cases hc
  rename_i fn hf
  split at hc
  rotate_left
  · cases hc
  rename_i c hb
  simp only [Option.bind_eq_some_iff, oif_some, Option.some.injEq, Prod.mk.injEq, decide_eq_true_eq] at hc
  obtain ⟨dc', hdc, rs', hrs, hnb, rfl, rfl, rfl⟩ := hc
  intro w F m xs hxl hHle hwf hfz hblk hnone hinj
  refine calls_of_wp hf hb ?_
  let G : Ctx := { n := fn.ntmps, w0 := w, F0 := F, R0 := fun b => ∃ i, i < H.length ∧ m (nb + i) = some (some b), k := H.length, m0 := m }
  have hgetx : ∀ t, (xs.toArray ++ Array.replicate (fn.ntmps - xs.toArray.size) undef).getD t undef = xs.getD t undef := by
    intro t
    simp only [Array.getD_eq_getD_getElem?, List.getD_eq_getElem?_getD]
    by_cases ht : t < xs.length
    · rw [Array.getElem?_append_left (by simpa using ht)]
      simp
    · rw [Array.getElem?_append_right (by simpa using ht), Array.getElem?_replicate, List.getElem?_eq_none (by omega)]
      split <;> rfl
  have hslot : ∀ t, t < nb → ent H ds t = if t < ds.length then ds.getD t .any else .any := by
    intro t ht
    unfold ent
    rw [entL_at, entL_at]
    by_cases h : t < ds.length
    · rw [if_pos ⟨Nat.zero_le _, by omega⟩, if_pos h]; simp
    · rw [if_neg (by omega), if_neg (by omega), if_neg h]; unfold base; rw [if_pos ht]
  have hnm : ∀ g, nb ≤ g → ent H ds g = if g < nb + H.length then H.getD (g - nb) .any else .free := by
    intro g hg
    unfold ent
    rw [entL_at, entL_at, if_neg (by omega)]
    by_cases h : g < nb + H.length
    · rw [if_pos ⟨hg, h⟩, if_pos h]
    · rw [if_neg (by omega), if_neg h]; unfold base; rw [if_neg (by omega), if_neg (by omega)]
  have hHi : ∀ i, i < H.length → H[i]? = some (H.getD i .any) := fun i hi => by rw [List.getD_eq_getElem?_getD, List.getElem?_eq_getElem hi]; rfl
  have hisb : ∀ g, nb ≤ g → (ent H ds g).isBlk = true → g < nb + H.length := by
    intro g hg h
    rw [hnm g hg] at h
    split at h
    · assumption
    · cases h
  have hR0 : Rel G (ent H ds) { tmps := xs.toArray ++ Array.replicate (fn.ntmps - xs.toArray.size) undef, defers := [] } w := by
    refine ⟨rfl, F, m, ?_, hnb, fun t ht => ?_, fun g hg => ?_, fun g g' b hg hg' h1 h2 h3 h4 => ?_, hwf, Chg.refl w F _, fun g b hg h1 h2 => ?_, fun i hi => ?_⟩
    · show (xs.toArray ++ Array.replicate (fn.ntmps - xs.toArray.size) undef).size = fn.ntmps
      simp only [Array.size_append, Array.size_replicate, List.size_toArray]
      omega
    · show Fz w F m (ent H ds t) ((xs.toArray ++ Array.replicate (fn.ntmps - xs.toArray.size) undef).getD t undef)
      rw [hgetx, hslot t ht]
      by_cases h : t < ds.length
      · have hx : xs[t]? = some (xs.getD t undef) := by rw [List.getD_eq_getElem?_getD, List.getElem?_eq_getElem (by omega)]; rfl
        have hdd : ds[t]? = some (ds.getD t .any) := by rw [List.getD_eq_getElem?_getD, List.getElem?_eq_getElem h]; rfl
        rw [if_pos h]
        exact hfz t _ _ hdd hx
      · rw [if_neg h]; exact .any _ _
    · rw [hnm g hg]
      by_cases h : g < nb + H.length
      · rw [if_pos h]
        have := (hblk (g - nb) _ (hHi _ (by omega))).2
        rwa [show nb + (g - nb) = g by omega] at this
      · rw [if_neg h]; exact hnone g (.inr (by omega))
    · have l1 := hisb g hg h1
      have l2 := hisb g' hg' h2
      have := hinj (g - nb) (g' - nb) b (by omega) (by omega) (by rwa [show nb + (g - nb) = g by omega]) (by rwa [show nb + (g' - nb) = g' by omega])
      omega
    · have l1 := hisb g hg h1
      exact .inl ⟨g - nb, by omega, by rwa [show nb + (g - nb) = g by omega]⟩
    · have hi : i < H.length := hi
      refine ⟨?_, rfl⟩
      rw [hnm _ (by omega), if_pos (by omega), show nb + i - nb = i by omega]
      have := (hblk i _ (hHi i hi)).1
      intro e
      rw [e] at this
      cases this
  have fin : ∀ (a' : Act) (w' : World), (∃ τ, Rel G τ a' w' ∧ Fin H.length rs' r H' τ) → a'.defers = [] ∧ ∃ v, (results fn a'.tmps).run P w' = .ok v w' ∧
      (∃ (x : Value) (F' : Cells) (m' : Names), Ending.returned v = .returned x ∧ Chg w F (fun b => ∃ i, i < H.length ∧ m (nb + i) = some (some b)) w' F' ∧
      (∀ b o, F' b o → b < w'.heap.size) ∧ (∀ i, i < H.length → m' (nb + i) = m (nb + i)) ∧ (∀ g, g < nb ∨ nb + H'.length ≤ g → m' g = none) ∧ Fz w' F' m' r x ∧ (∀ (i : Nat) (d : D), H'[i]? = some d → d ≠ .free ∧ Blk w' F' m' (nb + i) d) ∧
      (∀ i j b d d', H'[i]? = some d → H'[j]? = some d' → d.isBlk = true → d'.isBlk = true → m' (nb + i) = some (some b) → m' (nb + j) = some (some b) → i = j) ∧
      (∀ i d b, H'[i]? = some d → d.isBlk = true → m' (nb + i) = some (some b) → (∃ j, j < H.length ∧ m (nb + j) = some (some b)) ∨ w.heap.size ≤ b)) := by
    rintro a' w' ⟨τ0, hR, τ, L, hwk, hfin⟩
    obtain ⟨hdf, F', m1, hR⟩ := hwk G a' w' rfl hR
    obtain ⟨v, hv, hfv⟩ := res_run hR fn hrs hfin.ok
    have hcan := can_of hfin.can
    have hmm : ∀ g g', nameOf L g = some g' → (fun g => (nameOf L g).bind m1) g = m1 g' := fun g g' hg => by simp [hg]
    have hat : ∀ i g, L[i]? = some g → (nameOf L (nb + i)).bind m1 = m1 g := fun i g hg => by rw [nameOf_at, hg]; rfl
    have hLi : ∀ (i : Nat) (d : D), H'[i]? = some d → ∃ g, L[i]? = some g ∧ nb ≤ g ∧ (d = .any ∨ (d.isBlk = true ∧ τ g = d.ren L)) := fun i d hd => by
      have h1 : i < L.length := by rw [hfin.len]; exact (List.getElem?_eq_some_iff.1 hd).1
      have h2 := List.getElem?_eq_getElem h1
      exact ⟨_, h2, hcan.ge _ (List.mem_of_getElem? h2), hfin.blk i d _ hd h2⟩
    have hbl : ∀ (i : Nat) (d : D), H'[i]? = some d → d.isBlk = true → ∃ g, L[i]? = some g ∧ nb ≤ g ∧ (τ g).isBlk = true := fun i d hd hb => by
      obtain ⟨g, hg, hgn, h | ⟨_, h⟩⟩ := hLi i d hd
      · rw [h] at hb; cases hb
      · exact ⟨g, hg, hgn, by rw [h, isBlk_ren]; exact hb⟩
    have hfv := hfin.res _ _ _ _ hfv
    refine ⟨hdf, v, hv, v, F', fun g => (nameOf L g).bind m1, rfl, hR.chg, hR.wf, fun i hi => ?_, fun g hg => ?_, hfv.unren hmm rfl, fun i d hd => ?_, fun i j b d d' hd hd' h1 h2 h3 h4 => ?_, fun i d b hd h1 h2 => ?_⟩
    · show (nameOf L (nb + i)).bind m1 = m (nb + i)
      rw [hat i _ (hcan.fix i hi)]
      exact (hR.par i hi).2
    · show (nameOf L g).bind m1 = none
      rcases hg with hg | hg
      · unfold nameOf; rw [if_pos hg]; rfl
      · unfold nameOf
        rw [if_neg (by omega), List.getElem?_eq_none (by rw [hfin.len]; omega)]
        rfl
    · obtain ⟨g, hg, hgn, h | ⟨hb, h⟩⟩ := hLi i d hd
      · subst h; exact ⟨(fun e => by cases e), trivial⟩
      · refine ⟨(fun e => by rw [e] at hb; cases hb), ?_⟩
        have h0 := hR.blks g hgn
        rw [h] at h0
        exact h0.unren hb hmm (hat i g hg)
    · obtain ⟨g, hg, hgn, hgb⟩ := hbl i d hd h1
      obtain ⟨g', hg', hgn', hgb'⟩ := hbl j d' hd' h2
      dsimp only at h3 h4
      rw [hat i g hg] at h3
      rw [hat j g' hg'] at h4
      have e := hR.inj g g' b hgn hgn' hgb hgb' h3 h4
      subst e
      exact (List.getElem?_inj (List.getElem?_eq_some_iff.1 hg).1 hcan.nd).1 (hg.trans hg'.symm)
    · obtain ⟨g, hg, hgn, hgb⟩ := hbl i d hd h1
      dsimp only at h2
      rw [hat i g hg] at h2
      exact hR.own g b hgn hgb h2
  refine wp_mono (dwp_ok (G := G) hm c dc' (ent H ds) _ w _ _ _ hdc hR0 hd) ?_
  intro e a' w' hp
  cases e with
  | normal => exact fin a' w' hp
  | ret => exact fin a' w' hp
  | exit id => obtain ⟨_, _, h⟩ := hp; exact h.elim
  | _ => exact hp.elim

end
end Go.Proofs.Ytimpofjjndbofaa
