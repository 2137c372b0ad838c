/-
  Instructions on plain data, the first part: copies, numbers, tests. What each says of the program's own operation. Instructions on plain data, the second part: pointers, loads, parts of values. Instructions on plain data, the third part: parts of slices, literals, equality of structs, new memory. Instructions on plain data, the fourth part: stores, appends, equality of structs. Instructions on plain data, the fifth part: equality of structs; calls. Instructions on plain data, the sixth part: calls. No condition.
-/
import Derived.Test.YtclkehekhdfnnaaSVBase
namespace Go.Proofs.Ytclkehekhdfnnaa
section
open Go.RowKit
structure OpOK (P : Program) (G : Ctx) (o : Oper) (e : Ent) (σ : Env) (upd : Upd) : Prop where
 wr : ∀ p,p ∈ upd → p.1 ∈ e.wr
 run : ∀ (τ : Env) (a : Act) (w : World) (K : Act → World → Prop) (Q : Exit → Act → World → Prop),(∀ t,t ∈ e.rd → τ t = σ t) →
  Rel G τ a w → (∀ a' w',Rel G (Env.put upd τ) a' w' → K a' w') → ∀ n,o.wpIn G.fen n P a w K Q
theorem sem_at {P : Program} {o : Oper} {ρ : Operand → Value} {w w' : World} {x : Next} (h : (execOp ρ o).run P w = .ok x w') (hx : ∀ d,x ≠ .defer d) (F : Fence) : o.semAt F.round ρ = execOp ρ o:=by
 refine Oper.semAt_plain F ρ o (fun c hc=>?_)
 unfold execOp at h
 rw [hc] at h
 simp only [Sem.run_bind] at h
 cases hr : (resolve ρ c o.type).run P w with
 | ok d w1=>
  rw [hr] at h
  simp only [Result.andThen_ok,Sem.run_pure] at h
  injection h with h1 h2
  exact hx d h1.symm
 | halt v w1=>
  rw [hr] at h
  cases h
theorem OpOK.of_run {P : Program} {G : Ctx} {o : Oper} {e : Ent} {σ : Env} {upd : Upd} (wr : ∀ p,p ∈ upd → p.1 ∈ e.wr)
  (h : ∀ (τ : Env) (a : Act) (w : World) (F : Cells) (m : Names),(∀ t,t ∈ e.rd → τ t = σ t) → RelF G τ a.tmps w F m →
   ∃ n v w' F' m',(execOp a.eval o).run P w = .ok n w' ∧ (n = .value v ∨ (n = .skip ∧ v = undef)) ∧ RelF G (Env.put upd τ) (a.put o.dst v).tmps w' F' m') : OpOK P G o e σ upd:=by
 refine ⟨wr,fun τ a w K Q hag hR hK=>?_⟩
 obtain ⟨hd,F,m,hR⟩:=hR
 obtain ⟨n,v,w',F',m',hrun,hn,hR'⟩:=h τ a w F m hag hR
 intro k
 have hd' : (a.put o.dst v).defers = G.dm.map markOf:=by
  unfold Act.put
  cases o.dst <;> exact hd
 have hs:=sem_at hrun (fun d e=>by rcases hn with rfl | ⟨rfl,_⟩ <;> cases e) G.fen
 refine ⟨fun _ _=>trivial,?_⟩
 rw [hs,hrun]
 rcases hn with rfl | ⟨rfl,rfl⟩
 ·exact hK _ _ ⟨hd',F',m',hR'⟩
 ·exact hK _ _ ⟨hd',F',m',hR'⟩
theorem constD_fz (w : World) (F : Cells) (m : Names) (x : Value) : Fz w F m (constD x) x:=by
 unfold constD
 split
 ·exact .nul m none
 ·rename_i f a b
  split
  ·rename_i h
   rw [Bool.and_eq_true,Array.isEmpty_iff,Array.isEmpty_iff] at h
   obtain ⟨rfl,rfl⟩:=h
   exact .fn m _ [] [] rfl (fun i d u h=>by cases h)
  ·exact .v m _
 ·exact .v m _
theorem constD_pur (x : Value) : (constD x).pur = true:=by
 unfold constD
 split
 ·rfl
 ·split <;> rfl
 ·rfl
theorem val_agree {σ τ : Env} {X : Opd} (h : ∀ t,t ∈ X.rd → τ t = σ t) : X.val τ = X.val σ:=by
 cases X with
 | t n=>exact h n (List.mem_singleton.2 rfl)
 | k d=>rfl
section
variable {P : Program} {G : Ctx} {o : Oper} {σ τ : Env} {a : Act} {w : World} {F : Cells} {m : Names}
theorem opd_fz (h : RelF G τ a.tmps w F m) {x : Operand} {X : Opd} (hx : opd x = some X) (hag : ∀ t,t ∈ X.rd → τ t = σ t) : Fz w F m (X.val σ) (a.eval x):=by
 rw [← val_agree hag]
 cases x with
 | tmp t=>
  have hx' : (if t < nb then some (Opd.t t) else none) = some X:=hx
  split at hx'
  ·obtain rfl : Opd.t t = X:=by simpa using hx'
   exact h.slots t ‹_›
  ·cases hx'
 | const x=>
  obtain rfl : Opd.k (constD x) = X:=by simpa [opd] using hx
  exact constD_fz w F m x
 | global g=>simp [opd] at hx
 | func f=>
  obtain rfl : Opd.k (.fn f []) = X:=by simpa [opd] using hx
  exact .fn m _ [] [] rfl (fun i d u h=>by cases h)
theorem Fz.v_eq {x y : Value} (h : Fz w F m (.v x) y) : y = x:=by cases h; rfl
theorem opd_v (h : RelF G τ a.tmps w F m) {x : Operand} {X : Opd} (hx : opd x = some X) (hag : ∀ t,t ∈ X.rd → τ t = σ t) {y : Value} (hv : X.val σ = .v y) : a.eval x = y:=by
 have h1:=opd_fz h hx hag
 rw [hv] at h1
 exact h1.v_eq
theorem OpOK.pure {d : Nat} {δ : D} {rd : List Nat} (hdst : o.dst = some d) (hd : d < G.n)
  (h : ∀ (τ : Env) (a : Act) (w : World) (F : Cells) (m : Names),(∀ t,t ∈ rd → τ t = σ t) → RelF G τ a.tmps w F m → ∃ v,(execOp a.eval o).run P w = .ok (.value v) w ∧ Fz w F m δ v) :
  OpOK P G o ⟨rd,[d]⟩ σ [(d,δ)]:=by
 refine .of_run (fun p hp=>?_) (fun τ a w F m hag hR=>?_)
 ·obtain rfl:=List.mem_singleton.1 hp; exact List.mem_singleton.2 rfl
 ·obtain ⟨v,hrun,hfz⟩:=h τ a w F m hag hR
  refine ⟨_,v,w,F,m,hrun,.inl rfl,?_⟩
  rw [hdst]
  exact hR.slot hd hfz
theorem in_mov {d : Nat} {x : Operand} {X : Opd} (ho : o.op = .move x ∨ o.op = .assign x) (hx : opd x = some X) (hdst : o.dst = some d) (hd : d < G.n) : OpOK P G o (In.ent σ (.mov d X)) σ (In.upd σ (.mov d X)):=by
 refine .pure hdst hd (fun τ a w F m hag hR=>⟨a.eval x,?_,opd_fz hR hx hag⟩)
 rcases ho with ho | ho <;> simp [execOp,ho]
theorem in_pick {d : Nat} {c x y : Operand} {C X Y : Opd} (ho : o.op = .pick c x y) (hc : opd c = some C) (hx : opd x = some X) (hy : opd y = some Y) (hdst : o.dst = some d) (hd : d < G.n) (h : In.ok σ (.pick d C X Y)) :
  OpOK P G o (In.ent σ (.pick d C X Y)) σ (In.upd σ (.pick d C X Y)):=by
 simp only [In.ok] at h
 simp only [In.upd]
 split at h
 ·rename_i q hq
  refine .pure hdst hd (fun τ a w F m hag hR=>⟨if q then a.eval x else a.eval y,?_,?_⟩)
  ·have:=opd_v hR hc (fun t ht=>hag t (List.mem_append_left _ (List.mem_append_left _ ht))) hq
   simp [execOp,ho,this,asBool]
  ·cases q
   ·exact opd_fz hR hy (fun t ht=>hag t (List.mem_append_right _ ht))
   ·exact opd_fz hR hx (fun t ht=>hag t (List.mem_append_left _ (List.mem_append_right _ ht)))
 ·exact h.elim
theorem binV_run (op : BinOp) (k k' : IntKind) (p q : Int) (h : binVok op k k' q) (t : TypeId) (w : World) : (binOp op t (.int k p) (.int k' q)).run P w = .ok (binV op k p q) w:=by
 cases op <;> simp only [binVok] at h
 case shl=>simp [binOp,Op.shift,Int.not_lt.2 h,binV]
 case shr=>simp [binOp,Op.shift,Int.not_lt.2 h,binV]
 case quo=>obtain ⟨rfl,h0⟩:=h; simp [binOp,Op.intDiv,h0,binV]
 case rem=>obtain ⟨rfl,h0⟩:=h; simp [binOp,Op.intDiv,h0,binV]
 all_goals (subst h; simp [binOp,Op.intArith,Op.intBits,Op.intCmp,intBit,binV])
theorem binD_run (op : BinOp) (x y : D) (h : binOk op x y) : ∃ p q r,x = .v p ∧ y = .v q ∧ binD op x y = .v r ∧ ∀ (t : TypeId) (X Y : Operand) (w : World),(do eqGuard op t X Y p q; binOp op t p q).run P w = .ok r w:=by
 cases x with
 | v p=>
  cases y with
  | v q=>
   cases p with
   | int k p=>
    cases q with
    | int k' q=>
     refine ⟨_,_,_,rfl,rfl,rfl,fun t X Y w=>?_⟩
     have hg : (eqGuard op t X Y (.int k p) (.int k' q)).run P w = .ok () w:=by unfold eqGuard; split <;> simp
     rw [Sem.run_bind,hg]
     exact binV_run op k k' p q h t w
    | _=>exact False.elim h
   | string p=>
    cases q with
    | string q=>
     have hg : ∀ (t : TypeId) (X Y : Operand) (w : World),(eqGuard op t X Y (.string p) (.string q)).run P w = .ok () w:=by intro t X Y w; unfold eqGuard; split <;> simp
     have h' : binSok op p q:=h
     cases op <;> simp only [binSok] at h'
     case add=>
      refine ⟨_,_,_,rfl,rfl,rfl,fun t X Y w=>?_⟩
      rw [Sem.run_bind,hg]
      have h2 : (p.size : Int) + (q.size : Int) ≤ 9223372036854775807:=by omega
      simp [binOp,Op.stringOp,h2,binS]
     case eql=>exact ⟨_,_,_,rfl,rfl,rfl,fun t X Y w=>by rw [Sem.run_bind,hg]; simp [binOp,Op.stringOp,binS]⟩
     case neq=>exact ⟨_,_,_,rfl,rfl,rfl,fun t X Y w=>by rw [Sem.run_bind,hg]; simp [binOp,Op.stringOp,binS]⟩
    | _=>exact False.elim h
   | _=>exact False.elim h
  | _=>cases p <;> exact False.elim h
 | _=>exact False.elim h
theorem in_two {d : Nat} {x y : Operand} {X Y : Opd} {p q r : Value} (hx : opd x = some X) (hy : opd y = some Y) (hdst : o.dst = some d) (hd : d < G.n) (hp : X.val σ = .v p) (hq : Y.val σ = .v q)
  (hrun : ∀ (a : Act) (w : World),a.eval x = p → a.eval y = q → (execOp a.eval o).run P w = .ok (.value r) w) : OpOK P G o ⟨X.rd ++ Y.rd,[d]⟩ σ [(d,.v r)]:=
 .pure hdst hd (fun _ a w _ m hag hR=>⟨r,hrun a w (opd_v hR hx (fun t ht=>hag t (List.mem_append_left _ ht)) hp) (opd_v hR hy (fun t ht=>hag t (List.mem_append_right _ ht)) hq),.v m r⟩)
theorem in_bin {d : Nat} {op : BinOp} {t t' : TypeId} {x y : Operand} {X Y : Opd} (ho : o.op = .binOp op t x y t') (hx : opd x = some X) (hy : opd y = some Y) (hdst : o.dst = some d) (hd : d < G.n)
  (h : In.ok σ (.bin d op X Y)) : OpOK P G o (In.ent σ (.bin d op X Y)) σ (In.upd σ (.bin d op X Y)):=by
 obtain ⟨p,q,r,hp,hq,hr,hrun⟩:=binD_run (P:=P) op _ _ h
 simp only [In.upd]
 rw [hr]
 refine in_two hx hy hdst hd hp hq (fun a w e1 e2=>?_)
 simp only [execOp,ho,e1,e2]
 rw [Sem.run_bind,hrun t x y w]
 rfl
theorem in_beq {d : Nat} {neg : Bool} {t t' : TypeId} {x y : Operand} {X Y : Opd} (ho : o.op = .binOp (if neg then .neq else .eql) t x y t') (ht : P.underlying t = some .bool) (hx : opd x = some X) (hy : opd y = some Y) (hdst : o.dst = some d) (hd : d < G.n)
  (h : In.ok σ (.beq d neg X Y)) : OpOK P G o (In.ent σ (.beq d neg X Y)) σ (In.upd σ (.beq d neg X Y)):=by
 simp only [In.ok] at h
 simp only [In.upd]
 split at h
 ·rename_i p q hp hq
  refine in_two hx hy hdst hd hp hq (fun a w e1 e2=>?_)
  have he:=run_equalIn_bool' (P:=P) w 9999 t p q ht
  have hg : ∀ op : BinOp,(eqGuard op t x y (.bool p) (.bool q)).run P w = .ok () w:=by intro op; unfold eqGuard; split <;> simp
  cases neg <;> simp [execOp,ho,e1,e2,hg,binOp,Op.equal,Op.maxDepth,he]
 ·exact h.elim
theorem Fz.notNil {d : D} {x : Value} (h : Fz w F m d x) (hd : neD d) : (∃ a n c,x = .slice (some a) n c) ∨ ∃ a n c,d = .v (.slice a n c):=by
 cases h with
 | sl0 m s a cap=>exact absurd hd (Nat.lt_irrefl 0)
 | sl m s es b off cap u hs hle hlen hu hr=>exact .inl ⟨_,_,_,rfl⟩
 | own m g s n b cap cur T hg hs hle hb hcap=>exact .inl ⟨_,_,_,rfl⟩
 | own0 m g s a hg=>exact absurd hd (Nat.lt_irrefl 0)
 | v m x=>cases x <;> first | exact .inr ⟨_,_,_,rfl⟩ | exact hd.elim
 | _=>exact hd.elim
theorem run_equalIn_nil {T e : TypeId} (hT : P.underlying T = some (.slice e)) (w : World) (n : Nat) (a : Option Addr) (k c : Nat) : (Op.equalIn (n + 1) T (.slice a k c) (.slice none 0 0)).run P w = .ok a.isNone w:=by
 cases a <;> simp [Op.equalIn,run_underlying hT]
theorem in_isn {d : Nat} {neg : Bool} {t t' e : TypeId} {x : Operand} {X : Opd} (ho : o.op = .binOp (if neg then .neq else .eql) t x (.const (.slice none 0 0)) t') (ht : P.underlying t = some (.slice e)) (hx : opd x = some X) (hdst : o.dst = some d) (hd : d < G.n)
  (h : In.ok σ (.isn d neg X)) : OpOK P G o (In.ent σ (.isn d neg X)) σ (In.upd σ (.isn d neg X)):=by
 simp only [In.ok] at h
 have hc : ∀ a : Act,a.eval (.const (.slice none 0 0)) = .slice none 0 0:=fun _=>rfl
 by_cases hr : ∃ A n c,X.val σ = .v (.slice A n c)
 ·obtain ⟨A,n,c,hv⟩:=hr
  have hu : In.upd σ (.isn d neg X) = [(d,.v (.bool (A.isNone != neg)))]:=by
   simp only [In.upd]
   rw [hv]
  rw [hu]
  refine .pure hdst hd (fun τ a w F m hag hR=>⟨_,?_,.v m (.bool (A.isNone != neg))⟩)
  have hA:=opd_v hR hx hag hv
  have he:=run_equalIn_nil ht w 9999 A n c
  have hg : ∀ op : BinOp,(eqGuard op t x (.const (.slice none 0 0)) (.slice A n c) (.slice none 0 0)).run P w = .ok () w:=by intro op; unfold eqGuard; split <;> simp
  cases neg <;> simp [execOp,ho,hA,hc,hg,binOp,Op.equal,Op.maxDepth,he]
 have hu : In.upd σ (.isn d neg X) = [(d,.v (.bool neg))]:=by
  simp only [In.upd]
  cases hv : X.val σ with
  | sl s es=>rfl
  | own g s n=>rfl
  | v x=>
   rw [hv] at h
   cases x with
   | slice A n c=>exact absurd ⟨A,n,c,hv⟩ hr
   | _=>exact h.elim
  | _=>rw [hv] at h; exact h.elim
 rw [hu]
 refine .pure hdst hd (fun τ a w F m hag hR=>⟨_,?_,.v m (.bool neg)⟩)
 rcases (opd_fz hR hx hag).notNil h with ⟨A,n,c,hA⟩ | hd'
 ·have he:=run_equalIn_nil ht w 9999 (some A) n c
  have hg : ∀ op : BinOp,(eqGuard op t x (.const (.slice none 0 0)) (.slice (some A) n c) (.slice none 0 0)).run P w = .ok () w:=by intro op; unfold eqGuard; split <;> simp
  cases neg <;> simp [execOp,ho,hA,hc,hg,binOp,Op.equal,Op.maxDepth,he]
 ·exact absurd hd' hr
theorem in_mm {d : Nat} {mx : Bool} {x y : Operand} {X Y : Opd} {ts : Array TypeId} (ho : o.op = .call { callee:=.builtin (if mx then .max else .min),args:=#[x,y],argTypes:=ts }) (hx : opd x = some X) (hy : opd y = some Y) (hdst : o.dst = some d) (hd : d < G.n)
  (h : In.ok σ (.mm d mx X Y)) : OpOK P G o (In.ent σ (.mm d mx X Y)) σ (In.upd σ (.mm d mx X Y)):=by
 simp only [In.ok] at h
 simp only [In.upd]
 split at h
 ·rename_i k p k' q hp hq
  subst h
  refine in_two hx hy hdst hd hp hq (fun a w e1 e2=>?_)
  have e3 : max p q = if q > p then q else p:=by split <;> omega
  have e4 : min p q = if q < p then q else p:=by split <;> omega
  cases mx <;> simp [execOp,ho,e1,e2,resolve,invoke,builtin,Builtin.min_,Builtin.min2,Builtin.max_,Builtin.max2,mmV,e3,e4]
 ·exact h.elim
theorem in_un {d : Nat} {op : UnOp} {t : TypeId} {x : Operand} {X : Opd} (ho : o.op = .unOp op t x) (hx : opd x = some X) (hdst : o.dst = some d) (hd : d < G.n)
  (h : In.ok σ (.un d op X)) : OpOK P G o (In.ent σ (.un d op X)) σ (In.upd σ (.un d op X)):=by
 simp only [In.ok] at h
 simp only [In.upd]
 split at h
 ·rename_i b hb
  exact .pure hdst hd (fun τ a w F m hag hR=>⟨_,by simp [execOp,ho,opd_v hR hx hag hb,Op.unary],.v m _⟩)
 ·rename_i k n hn
  exact .pure hdst hd (fun τ a w F m hag hR=>⟨_,by simp [execOp,ho,opd_v hR hx hag hn,Op.unary,Op.intArith],.v m _⟩)
 ·exact h.elim
theorem int_val {X : Opd} (h : intOk σ X) : ∃ k,X.val σ = .v (.int k (intD σ X)):=by
 unfold intOk D.int? at h
 unfold intD D.int?
 split at h
 ·rename_i k n hn; exact ⟨k,by rw [hn]; rfl⟩
 ·cases h
theorem in_cvt {d : Nat} {k : IntKind} {t u : TypeId} {td : TypeDesc} {x : Operand} {X : Opd} (ho : o.op = .convert t u x) (ht : P.underlying t = some td) (hu : P.underlying u = some (.int k)) (hx : opd x = some X) (hdst : o.dst = some d) (hd : d < G.n)
  (h : In.ok σ (.cvt d k X)) : OpOK P G o (In.ent σ (.cvt d k X)) σ (In.upd σ (.cvt d k X)):=by
 obtain ⟨k',hn⟩:=int_val h
 refine .pure hdst hd (fun τ a w F m hag hR=>⟨_,?_,.v m _⟩)
 simp [execOp,ho,opd_v hR hx hag hn,convert,run_underlying ht,run_underlying hu,Conv.intToInt]
end
end
section
open Go.RowKit
theorem one_cells {w : World} {F : Cells} {m : Names} {d : D} {x : Value} (h : Fz w F m d x) (h1 : d.one = true) : x.oneCell' = true ∧ x.cells.toList = [x]:=by
 cases h with
 | v m x=>cases x <;> first | exact ⟨rfl,rfl⟩ | (simp [D.one,Value.oneCell'] at h1; done)
 | any m x=>cases h1
 | agg=>cases h1
 | tup=>cases h1
 | gho=>cases h1
 | _=>exact ⟨rfl,rfl⟩
theorem CellsOK.names {w : World} {F : Cells} {m m' : Names} {cs : List D} {us : List Value} (h : CellsOK w F m cs us) (hm : ∀ g p,m g = some p → m' g = some p) : CellsOK w F m' cs us:=h.stable (Chg.refl w F noBlocks) hm
theorem none_le {m : Names} : ∀ g p,noNames g = some p → m g = some p:=fun _ _ h=>by cases h
theorem CellsOK.pure {w : World} {F : Cells} {m m' : Names} {cs : List D} {us : List Value} (h : CellsOK w F m cs us) (hp : D.purL cs = true) : CellsOK w F m' cs us:=
 ⟨h.len,h.one,fun j d u hd hu=>(h.fz j d u hd hu).pure (D.purL_iff.1 hp d (List.mem_of_getElem? hd)) m'⟩
theorem CellsOK.setAll {w : World} {F : Cells} {m : Names} {cs vs : List D} {us xs : List Value} (h : CellsOK w F m cs us) (g : CellsOK w F m vs xs) (o : Nat) (hle : o + vs.length ≤ cs.length) :
  CellsOK w F m (D.setAll cs o vs) (us.take o ++ xs ++ us.drop (o + xs.length)) where
 len:=by rw [D.setAll,setAll_length _ _ _ hle,setAll_length _ _ _ (by rw [g.len,h.len]; exact hle),h.len]
 one u hu:=by
  obtain ⟨j,hj⟩:=List.mem_iff_getElem?.1 hu
  rw [setAll_get _ _ _ (by rw [g.len,h.len]; exact hle)] at hj
  split at hj
  ·exact g.one u (List.mem_of_getElem? hj)
  ·exact h.one u (List.mem_of_getElem? hj)
 fz j d u hd hu:=by
  rw [D.setAll,setAll_get _ _ _ hle] at hd
  rw [setAll_get _ _ _ (by rw [g.len,h.len]; exact hle),g.len] at hu
  by_cases hin : o ≤ j ∧ j < o + vs.length
  ·rw [if_pos hin] at hd hu; exact g.fz _ d u hd hu
  ·rw [if_neg hin] at hd hu; exact h.fz _ d u hd hu
theorem CellsOK.append {w : World} {F : Cells} {m : Names} {cs ds : List D} {us vs : List Value} (h : CellsOK w F m cs us) (g : CellsOK w F m ds vs) : CellsOK w F m (cs ++ ds) (us ++ vs) where
 len:=by rw [List.length_append,List.length_append,h.len,g.len]
 one u hu:=(List.mem_append.1 hu).elim (h.one u) (g.one u)
 fz j d u hd hu:=by
  by_cases hj : j < cs.length
  ·rw [List.getElem?_append_left hj] at hd
   rw [List.getElem?_append_left (by rw [h.len]; exact hj)] at hu
   exact h.fz j d u hd hu
  ·rw [List.getElem?_append_right (by omega)] at hd
   rw [List.getElem?_append_right (by rw [h.len]; omega),h.len] at hu
   exact g.fz _ d u hd hu
theorem CellsOK.nil {w : World} {F : Cells} {m : Names} : CellsOK w F m [] []:=⟨rfl,(fun _ h=>by cases h),fun _ _ _ h=>by simp at h⟩
theorem asC_val {w : World} {F : Cells} {m : Names} {d : D} {x : Value} {n : Option Nat} (hf : Fz w F m d x) (h : D.asCok d n) : CellsOK w F m (D.asC d n) x.cells.toList:=by
 cases n with
 | none=>
  obtain ⟨ho,hc⟩:=one_cells hf h
  refine ⟨by rw [hc]; rfl,fun u hu=>?_,fun j e u he hu=>?_⟩
  ·rw [hc] at hu; obtain rfl:=List.mem_singleton.1 hu; exact ho
  ·rw [hc] at hu
   cases j with
   | zero=>
    obtain rfl : d = e:=by simpa [D.asC] using he
    obtain rfl : x = u:=by simpa using hu
    exact hf
   | succ j=>simp at hu
 | some n=>
  cases d with
  | agg cs=>
   cases hf with
   | agg _ _ vs hl' h1 hr=>exact ⟨hl',h1,hr⟩
  | _=>exact False.elim h
theorem Fz.slCells {w : World} {F : Cells} {m : Names} {s : Nat} {es : List D} {x : Value} (h : Fz w F m (.sl s es) x) :
  (es = [] ∧ ∃ a cap,x = .slice a 0 cap) ∨ ∃ (b off cap : Nat) (us : List Value),x = .slice (some ⟨b,off,none⟩) es.length cap ∧ es.length ≤ cap ∧ 0 < s ∧ (∀ (e : D),e ∈ es → e.cells.length = s) ∧ CellsOK w F noNames (D.flat es) us ∧
   ∀ j v,us[j]? = some v → w.cell? ⟨b,off + j,none⟩ = some v ∧ F b (off + j):=by
 cases h with
 | sl0 m s a cap=>exact .inl ⟨rfl,a,cap,rfl⟩
 | sl m s es b off cap u hs hle hlen hu hr=>
  right
  have hget : ∀ (j : Nat) (v : Value),((List.range (es.length * s)).map u)[j]? = some v → j < es.length * s ∧ v = u j:=by
   intro j v hj
   rw [List.getElem?_map] at hj
   cases hr : (List.range (es.length * s))[j]? with
   | none=>rw [hr] at hj; cases hj
   | some k=>
    obtain ⟨hlt,hk⟩:=List.getElem?_eq_some_iff.1 hr
    rw [hr] at hj
    have : j < es.length * s:=by simpa using hlt
    have hk' : j = k:=by simpa using hk
    subst hk'
    exact ⟨this,by simpa using hj.symm⟩
  refine ⟨b,off,cap,(List.range (es.length * s)).map u,rfl,hle,hs,hlen,⟨by rw [flat_len hlen]; simp,fun v hv=>?_,fun j d v hd hv=>?_⟩,fun j v hv=>?_⟩
  ·obtain ⟨k,hk,rfl⟩:=List.mem_map.1 hv
   exact (hu k (List.mem_range.1 hk)).2.2
  ·obtain ⟨_,rfl⟩:=hget j v hv; exact hr j d hd
  ·obtain ⟨hj,rfl⟩:=hget j v hv; exact ⟨(hu j hj).1,(hu j hj).2.1⟩
theorem Fz.ofCells {w : World} {F : Cells} {m : Names} {s : Nat} {es : List D} {b off cap : Nat} {us : List Value} (hs : 0 < s) (hle : es.length ≤ cap) (hlen : ∀ (e : D),e ∈ es → e.cells.length = s) (hc : CellsOK w F noNames (D.flat es) us)
  (hu : ∀ j v,us[j]? = some v → w.cell? ⟨b,off + j,none⟩ = some v ∧ F b (off + j)) : Fz w F m (.sl s es) (.slice (some ⟨b,off,none⟩) es.length cap):=by
 have hl : us.length = es.length * s:=by rw [hc.len,flat_len hlen]
 refine .sl m s es b off cap (fun k=>us.getD k undef) hs hle hlen (fun k hk=>?_) (fun k d hd=>?_)
 ·have he : us[k]? = some (us.getD k undef):=by rw [List.getD_eq_getElem?_getD,List.getElem?_eq_getElem (by omega)]; rfl
  exact ⟨(hu k _ he).1,(hu k _ he).2,hc.one _ (List.mem_of_getElem? he)⟩
 ·have hk : k < us.length:=by rw [hc.len]; exact (List.getElem?_eq_some_iff.1 hd).1
  exact hc.fz k d _ hd (by rw [List.getD_eq_getElem?_getD,List.getElem?_eq_getElem hk]; rfl)
theorem elem_cells {w : World} {F : Cells} {m : Names} {s : Nat} {es : List D} {us : List Value} (hlen : ∀ (e : D),e ∈ es → e.cells.length = s) (hc : CellsOK w F m (D.flat es) us) {i : Nat} (hi : i < es.length) :
  (es.getD i .any).cells.length = s ∧ CellsOK w F m (es.getD i .any).cells ((us.drop (i * s)).take s):=by
 have hget : es.getD i .any = es[i]:=by simp [List.getD_eq_getElem?_getD,hi]
 have hel:=hlen _ (List.getElem_mem hi)
 rw [hget]
 have hle : i * s + s ≤ es.length * s:=by
  have : (i + 1) * s ≤ es.length * s:=Nat.mul_le_mul_right _ hi
  rw [Nat.add_mul] at this
  omega
 have hul : us.length = es.length * s:=by rw [hc.len,flat_len hlen]
 refine ⟨hel,by rw [List.length_take,List.length_drop,hel]; omega,fun u hu=>hc.one u (List.mem_of_mem_drop (List.mem_of_mem_take hu)),fun j d u hd hu=>?_⟩
 have hj : j < s:=by rw [← hel]; exact (List.getElem?_eq_some_iff.1 hd).1
 rw [List.getElem?_take,if_pos hj,List.getElem?_drop] at hu
 refine hc.fz _ d u ?_ hu
 rw [flat_get hlen i j hj,List.getElem?_eq_getElem hi]
 exact hd
theorem Fz.cellsAt {w : World} {F : Cells} {m : Names} {cs : List D} {x : Value} (h : Fz w F m (.ptr cs) x) : ∃ b q us,x = .pointer (some ⟨b,q,none⟩) ∧ CellsOK w F noNames cs us ∧ ∀ j v,us[j]? = some v → w.cell? ⟨b,q + j,none⟩ = some v ∧ F b (q + j):=by
 cases h with
 | ptr m cs b off u hu hr=>
  have hget : ∀ (j : Nat) (v : Value),((List.range cs.length).map u)[j]? = some v → j < cs.length ∧ v = u j:=by
   intro j v hj
   rw [List.getElem?_map] at hj
   cases hr : (List.range cs.length)[j]? with
   | none=>rw [hr] at hj; cases hj
   | some k=>
    obtain ⟨hlt,hk⟩:=List.getElem?_eq_some_iff.1 hr
    rw [hr] at hj
    have : j < cs.length:=by simpa using hlt
    have hk' : j = k:=by simpa using hk
    subst hk'
    exact ⟨this,by simpa using hj.symm⟩
  refine ⟨b,off,(List.range cs.length).map u,rfl,⟨by simp,fun v hv=>?_,fun j d v hd hv=>?_⟩,fun j v hv=>?_⟩
  ·obtain ⟨k,hk,rfl⟩:=List.mem_map.1 hv
   exact (hu k (List.mem_range.1 hk)).2.2
  ·obtain ⟨_,rfl⟩:=hget j v hv; exact hr j d hd
  ·obtain ⟨hj,rfl⟩:=hget j v hv; exact ⟨(hu j hj).1,(hu j hj).2.1⟩
theorem Fz.ofPtr {w : World} {F : Cells} {m : Names} {cs : List D} {b q : Nat} {us : List Value} (hc : CellsOK w F noNames cs us) (hu : ∀ j v,us[j]? = some v → w.cell? ⟨b,q + j,none⟩ = some v ∧ F b (q + j)) : Fz w F m (.ptr cs) (.pointer (some ⟨b,q,none⟩)):=by
 refine .ptr m cs b q (fun k=>us.getD k undef) (fun k hk=>?_) (fun k d hd=>?_)
 ·have he : us[k]? = some (us.getD k undef):=by rw [List.getD_eq_getElem?_getD,List.getElem?_eq_getElem (by rw [hc.len]; exact hk)]; rfl
  exact ⟨(hu k _ he).1,(hu k _ he).2,hc.one _ (List.mem_of_getElem? he)⟩
 ·have hk : k < us.length:=by rw [hc.len]; exact (List.getElem?_eq_some_iff.1 hd).1
  exact hc.fz k d _ hd (by rw [List.getD_eq_getElem?_getD,List.getElem?_eq_getElem hk]; rfl)
theorem CellsOK.drop {w : World} {F : Cells} {m : Names} {cs : List D} {us : List Value} (h : CellsOK w F m cs us) (k : Nat) : CellsOK w F m (cs.drop k) (us.drop k):=
 ⟨by rw [List.length_drop,List.length_drop,h.len],fun u hu=>h.one u (List.mem_of_mem_drop hu),fun j d u hd hu=>h.fz (k + j) d u (by rwa [List.getElem?_drop] at hd) (by rwa [List.getElem?_drop] at hu)⟩
theorem CellsOK.take {w : World} {F : Cells} {m : Names} {cs : List D} {us : List Value} (h : CellsOK w F m cs us) (k : Nat) : CellsOK w F m (cs.take k) (us.take k):=by
 refine ⟨by rw [List.length_take,List.length_take,h.len],fun u hu=>h.one u (List.mem_of_mem_take hu),fun j d u hd hu=>?_⟩
 rw [List.getElem?_take] at hd hu
 split at hd
 ·rename_i hj
  rw [if_pos hj] at hu
  exact h.fz j d u hd hu
 ·cases hd
theorem getC_val {w : World} {F : Cells} {m : Names} {cs : List D} {us : List Value} (h : CellsOK w F m cs us) {q : Nat} {n : Option Nat} (hg : D.getCok cs q n) :
  ∃ v,Fz w F m (D.getC cs q n) v ∧ (n = none → us[q]? = some v) ∧ (∀ k,n = some k → v = .agg ((us.drop q).take k).toArray ∧ q + k ≤ us.length):=by
 cases n with
 | none=>
  have hq : q < us.length:=by rw [h.len]; exact hg
  have hc : cs[q]? = some cs[q]:=List.getElem?_eq_getElem hg
  have e : D.getC cs q none = cs[q]:=by simp [D.getC,List.getD_eq_getElem?_getD,hc]
  rw [e]
  exact ⟨us[q],h.fz q _ _ hc (List.getElem?_eq_getElem hq),fun _=>List.getElem?_eq_getElem hq,fun k hk=>by cases hk⟩
 | some n=>
  have h1:=(h.drop q).take n
  exact ⟨.agg ((us.drop q).take n).toArray,.agg m _ _ h1.len h1.one h1.fz,(fun hm=>by cases hm),fun k hk=>by
   obtain rfl : n = k:=by simpa using hk
   exact ⟨rfl,by rw [h.len]; exact hg⟩⟩
section
variable {P : Program} {G : Ctx} {o : Oper} {σ τ : Env} {a : Act} {w : World} {F : Cells} {m : Names}
theorem ptr_at (hR : RelF G τ a.tmps w F m) {s : Nat} (hs : s < nb) (hag : ∀ t,t ∈ s :: ptrRoot σ s → τ t = σ t) (hok : ptrOk σ s) :
  ∃ b q us,a.eval (.tmp s) = .pointer (some ⟨b,q + ptrO σ s,none⟩) ∧ CellsOK w F m (ptrC σ s) us ∧ ∀ j v,us[j]? = some v → w.cell? ⟨b,q + j,none⟩ = some v:=by
 have h1:=hR.slots s hs
 rw [hag s (List.mem_cons_self ..)] at h1
 unfold ptrOk at hok
 unfold ptrRoot at hag
 unfold ptrC ptrO
 have hx : a.eval (.tmp s) = a.tmps.getD s undef:=rfl
 rw [hx]
 generalize a.tmps.getD s undef = x at h1
 cases hv : σ s with
 | ref g q=>
  rw [hv] at h1 hok hag
  obtain ⟨hg,hok⟩:=hok
  have h2:=hR.blks g hg
  rw [hag g (List.mem_cons_of_mem _ (List.mem_singleton.2 rfl))] at h2
  cases h1 with
  | ref _ _ _ b hb=>
   cases hgv : σ g with
   | obj cs=>
    rw [hgv] at h2
    obtain ⟨b',cur,U,hg',hb',hc,_⟩:=h2
    obtain rfl : b = b':=by rw [hb] at hg'; simpa using hg'
    exact ⟨b,0,cur.toList,by simp,by simpa [hgv] using hc,fun j v hj=>by rw [Nat.zero_add,cell_of_row w b j cur U (0,0) hb',← Array.getElem?_toList]; exact hj⟩
   | _=>rw [hgv] at hok; exact hok.elim
 | eref g st i q=>
  rw [hv] at h1 hok hag
  obtain ⟨hg,hok⟩:=hok
  have h2:=hR.blks g hg
  rw [hag g (List.mem_cons_of_mem _ (List.mem_singleton.2 rfl))] at h2
  cases h1 with
  | eref _ _ _ _ _ b hb=>
   cases hgv : σ g with
   | row st' es=>
    rw [hgv] at h2 hok
    obtain ⟨rfl,hi⟩:=hok
    rcases h2 with ⟨rfl,_⟩ | ⟨b',cur,U,hg',hb',h0,hl,hsz,hc,_⟩
    ·simp at hi
    ·obtain rfl : b = b':=by rw [hb] at hg'; simpa using hg'
     obtain ⟨hel,hcc⟩:=elem_cells hl hc hi
     refine ⟨b,i * st',_,rfl,by simpa [hgv] using hcc,fun j v hj=>?_⟩
     rw [List.getElem?_take] at hj
     split at hj
     ·rw [List.getElem?_drop,List.getElem?_take] at hj
      split at hj
      ·rw [cell_of_row w b _ cur U (0,0) hb',← Array.getElem?_toList]; exact hj
      ·cases hj
     ·cases hj
   | _=>rw [hgv] at hok; exact hok.elim
 | ptr cs=>
  rw [hv] at h1
  obtain ⟨b,q,us,rfl,hc,hu⟩:=h1.cellsAt
  exact ⟨b,q,us,rfl,hc.names none_le,fun j v hj=>(hu j v hj).1⟩
 | _=>rw [hv] at hok; exact hok.elim
theorem run_load {T : TypeId} {n : Option Nat} (hsz : szOf P T = some n) {s : Nat} (ho : o.op = .load T (.tmp s)) {a : Act} {w : World} {b q k : Nat} (hx : a.eval (.tmp s) = .pointer (some ⟨b,q + k,none⟩)) {us : List Value}
  (hc : ∀ j v,us[j]? = some v → w.cell? ⟨b,q + j,none⟩ = some v) {v : Value} (h1 : n = none → us[k]? = some v) (h2 : ∀ m,n = some m → v = .agg ((us.drop k).take m).toArray ∧ k + m ≤ us.length) :
  (execOp a.eval o).run P w = .ok (.value v) w:=by
 cases n with
 | none=>
  have:=run_loadVar1 (P:=P) hsz w ⟨b,q + k,none⟩ v (hc k v (h1 rfl))
  simp [execOp,ho,Instr.loadAt,hx,Instr.sureAddr,this]
 | some m=>
  obtain ⟨rfl,hle⟩:=h2 m rfl
  have:=run_loadVarN (P:=P) hsz w b (q + k) ((us.drop k).take m) (by simp; omega) (fun j v hj=>by
   rw [List.getElem?_take] at hj
   split at hj
   ·rw [List.getElem?_drop] at hj
    rw [Nat.add_assoc]
    exact hc _ v hj
   ·cases hj)
  simp [execOp,ho,Instr.loadAt,hx,Instr.sureAddr,this]
theorem in_lod {d s T : Nat} {n : Option Nat} (ho : o.op = .load T (.tmp s)) (hs : s < nb) (hsz : szOf P T = some n) (hdst : o.dst = some d) (hd : d < G.n) (h : In.ok σ (.lod d s n)) : OpOK P G o (In.ent σ (.lod d s n)) σ (In.upd σ (.lod d s n)):=by
 refine .pure hdst hd (fun τ a w F m hag hR=>?_)
 obtain ⟨b,q,us,hx,hc,hu⟩:=ptr_at hR hs hag h.1
 obtain ⟨v,hv,h1,h2⟩:=getC_val hc h.2
 exact ⟨v,run_load hsz ho hx hu h1 h2,hv⟩
theorem OpOK.move {d s k : Nat} {l : List Nat} (hs : s < nb) (hdst : o.dst = some d) (hd : d < G.n) (h : ptrMv σ s)
  (hrun : ∀ (τ : Env) (a : Act) (w : World) (F : Cells) (m : Names) (b q : Nat),(∀ t,t ∈ s :: l → τ t = σ t) → RelF G τ a.tmps w F m → a.eval (.tmp s) = .pointer (some ⟨b,q,none⟩) →
   (execOp a.eval o).run P w = .ok (.value (.pointer (some ⟨b,q + k,none⟩))) w) : OpOK P G o ⟨s :: l,[d]⟩ σ [(d,ptrD σ s k)]:=by
 refine .pure hdst hd (fun τ a w F m hag hR=>?_)
 have h1:=hR.slots s hs
 rw [hag s (List.mem_cons_self ..)] at h1
 have hx : a.eval (.tmp s) = a.tmps.getD s undef:=rfl
 unfold ptrMv at h
 unfold ptrD
 generalize hy : a.tmps.getD s undef = x at h1
 rw [hy] at hx
 cases hv : σ s with
 | ref g q=>
  rw [hv] at h1
  cases h1 with
  | ref _ _ _ b hb=>exact ⟨_,hrun τ a w F m b q hag hR hx,.ref m g _ b hb⟩
 | eref g st i q=>
  rw [hv] at h1
  cases h1 with
  | eref _ _ _ _ _ b hb=>exact ⟨_,hrun τ a w F m b _ hag hR hx,by rw [Nat.add_assoc]; exact .eref m g st i _ b hb⟩
 | ptr cs=>
  rw [hv] at h1
  obtain ⟨b,q,us,rfl,hc,hu⟩:=h1.cellsAt
  exact ⟨_,hrun τ a w F m b q hag hR hx,Fz.ofPtr (hc.drop k) (fun j v hj=>by
   rw [List.getElem?_drop] at hj
   rw [Nat.add_assoc]
   exact hu _ v hj)⟩
 | _=>rw [hv] at h; exact h.elim
theorem in_fad {d s S f q : Nat} {n : Option Nat} (ho : o.op = .fieldAddr S (.tmp s) f) (hs : s < nb) (hf : fldOf P S f = some (q,n)) (hdst : o.dst = some d) (hd : d < G.n) (h : In.ok σ (.fad d s q)) :
  OpOK P G o (In.ent σ (.fad d s q)) σ (In.upd σ (.fad d s q)):=by
 obtain ⟨fields,fd,hu,hfd,rfl,hsz,hn0⟩:=fldOf_some hf
 refine OpOK.move (l:=[]) hs hdst hd h (fun τ a w F m b q hag hR hx=>?_)
 have h1:=run_sizeOf' hsz w
 simp [execOp,ho,Instr.fieldAt,run_underlying hu,hfd,hx,Instr.sureAddr,fieldPlace,h1,hn0,Addr.add_lit]
theorem in_iaa {d s T e k : Nat} {i : Operand} {I : Opd} {n : Option Nat} (ho : o.op = .indexAddr T (.tmp s) i) (hs : s < nb) (hT : P.underlying T = some (.array k e)) (he : szOf P e = some n) (hi : opd i = some I) (hdst : o.dst = some d) (hd : d < G.n)
  (h : In.ok σ (.iaa d s I k (n.getD 1))) : OpOK P G o (In.ent σ (.iaa d s I k (n.getD 1))) σ (In.upd σ (.iaa d s I k (n.getD 1))):=by
 obtain ⟨h1,h0,hm,hp⟩:=h
 obtain ⟨k',hj⟩:=int_val h1
 refine OpOK.move (l:=I.rd) hs hdst hd hp (fun τ a w F m b q hag hR hx=>?_)
 have h1:=run_sizeOf' he w
 have hij:=opd_v hR hi (fun t ht=>hag t (List.mem_cons_of_mem _ ht)) hj
 simp [execOp,ho,Instr.indexAt,run_underlying hT,hij,asIntOf,hx,Instr.sureAddr,h0,hm,h1,Addr.add_lit]
theorem in_iad {d s T e : Nat} {i : Operand} {I : Opd} {n : Option Nat} (ho : o.op = .indexAddr T (.tmp s) i) (hs : s < nb) (hT : P.underlying T = some (.slice e)) (he : szOf P e = some n) (hi : opd i = some I) (hdst : o.dst = some d) (hd : d < G.n)
  (h : In.ok σ (.iad d s I (n.getD 1))) : OpOK P G o (In.ent σ (.iad d s I (n.getD 1))) σ (In.upd σ (.iad d s I (n.getD 1))):=by
 simp only [In.ok] at h
 simp only [In.upd]
 have hx : ∀ a : Act,a.eval (.tmp s) = a.tmps.getD s undef:=fun _=>rfl
 cases hv : σ s with
 | sl st es=>
  rw [hv] at h
  obtain ⟨rfl,h1,h0,hm⟩:=h
  obtain ⟨k',hj⟩:=int_val h1
  refine .pure hdst hd (fun τ a w F m hag hR=>?_)
  have hij:=opd_v hR hi (fun t ht=>hag t (List.mem_cons_of_mem _ ht)) hj
  have h1:=hR.slots s hs
  rw [hag s (List.mem_cons_self ..),hv] at h1
  have hjn : (intD σ I).toNat < es.length:=by omega
  rcases h1.slCells with ⟨rfl,_⟩ | ⟨b,off,cap,us,hxe,_,_,hl,hc,hu⟩
  ·simp at hjn
  ·obtain ⟨hel,hcc⟩:=elem_cells hl hc hjn
   have hsz:=run_sizeOf' he w
   refine ⟨.pointer (some ⟨b,off + (intD σ I).toNat * n.getD 1,none⟩),?_,Fz.ofPtr hcc (fun j v hj'=>?_)⟩
   ·simp [execOp,ho,Instr.indexAt,run_underlying hT,hij,asIntOf,hx a,hxe,h0,hm,hsz,Addr.add_lit]
   ·rw [List.getElem?_take] at hj'
    split at hj'
    ·rw [List.getElem?_drop] at hj'
     rw [Nat.add_assoc]
     exact hu _ v hj'
    ·cases hj'
 | own g st k=>
  rw [hv] at h
  obtain ⟨rfl,h1,h0,hm⟩:=h
  obtain ⟨k',hj⟩:=int_val h1
  refine .pure hdst hd (fun τ a w F m hag hR=>?_)
  have hij:=opd_v hR hi (fun t ht=>hag t (List.mem_cons_of_mem _ ht)) hj
  have h1:=hR.slots s hs
  rw [hag s (List.mem_cons_self ..),hv] at h1
  have hsz:=run_sizeOf' he w
  generalize hy : a.tmps.getD s undef = x at h1
  have hxa:=hx a
  rw [hy] at hxa
  cases h1 with
  | own _ _ _ _ b cap cur U hg h00 hle hb hcap=>
   refine ⟨.pointer (some ⟨b,(intD σ I).toNat * n.getD 1 + 0,none⟩),?_,.eref m g _ _ 0 b hg⟩
   simp [execOp,ho,Instr.indexAt,run_underlying hT,hij,asIntOf,hxa,h0,hm,hsz,Addr.add_lit]
  | own0=>omega
 | owo g st q k=>
  rw [hv] at h
  obtain ⟨rfl,h1,h0,hm⟩:=h
  obtain ⟨k',hj⟩:=int_val h1
  refine .pure hdst hd (fun τ a w F m hag hR=>?_)
  have hij:=opd_v hR hi (fun t ht=>hag t (List.mem_cons_of_mem _ ht)) hj
  have h1:=hR.slots s hs
  rw [hag s (List.mem_cons_self ..),hv] at h1
  have hsz:=run_sizeOf' he w
  generalize hy : a.tmps.getD s undef = x at h1
  have hxa:=hx a
  rw [hy] at hxa
  cases h1 with
  | owo _ _ _ _ _ b cap cur U hg h00 hle hb hcap=>
   refine ⟨.pointer (some ⟨b,(q + (intD σ I).toNat) * n.getD 1 + 0,none⟩),?_,.eref m g _ _ 0 b hg⟩
   simp [execOp,ho,Instr.indexAt,run_underlying hT,hij,asIntOf,hxa,h0,hm,hsz,Addr.add_lit,Nat.add_mul]
  | owo0=>omega
 | _=>rw [hv] at h; exact h.elim
theorem Fz.aggOf {cs : List D} {x : Value} (h : Fz w F m (.agg cs) x) : ∃ us : List Value,x = .agg us.toArray ∧ CellsOK w F m cs us:=by
 cases h with
 | agg _ cs us hl h1 hr=>exact ⟨us,rfl,hl,h1,hr⟩
theorem Fz.tupOf {cs : List D} {x : Value} (h : Fz w F m (.tup cs) x) : ∃ us : List Value,x = .tuple us.toArray ∧ us.length = cs.length ∧ ∀ (i : Nat) (d : D) (u : Value),cs[i]? = some d → us[i]? = some u → Fz w F m d u:=by
 cases h with
 | tup _ cs us hl hr=>exact ⟨us,rfl,hl,hr⟩
theorem in_fld {d T f q : Nat} {n : Option Nat} {x : Operand} {X : Opd} (ho : o.op = .field T x f) (hf : fldOf P T f = some (q,n)) (hx : opd x = some X) (hdst : o.dst = some d) (hd : d < G.n) (h : In.ok σ (.fld d X q n)) :
  OpOK P G o (In.ent σ (.fld d X q n)) σ (In.upd σ (.fld d X q n)):=by
 obtain ⟨fields,fd,hu,hfd,rfl,hsz,hn0⟩:=fldOf_some hf
 simp only [In.ok] at h
 simp only [In.upd]
 cases hv : X.val σ with
 | agg cs=>
  rw [hv] at h
  refine .pure hdst hd (fun τ a w F m hag hR=>?_)
  have hso:=opd_fz hR hx hag
  rw [hv] at hso
  obtain ⟨us,hxe,hus⟩:=hso.aggOf
  obtain ⟨v,hfz,h1,h2⟩:=getC_val hus h
  obtain ⟨u',i',_,_,_,hagg⟩:=szOf_some hsz
  refine ⟨v,?_,hfz⟩
  cases n with
  | none=>
   have h1:=h1 rfl
   simp [execOp,ho,hxe,Instr.field,run_underlying hu,hfd,asAgg,part,hagg,h1]
  | some m=>
   obtain ⟨rfl,hle⟩:=h2 m rfl
   have hs:=run_sizeOf' hsz w
   simp [execOp,ho,hxe,Instr.field,run_underlying hu,hfd,asAgg,part,hagg,hs]
 | _=>rw [hv] at h; exact h.elim
theorem in_ida {d T e k : Nat} {n : Option Nat} {x i : Operand} {X I : Opd} (ho : o.op = .index T x i) (hT : P.underlying T = some (.array k e)) (hsz : szOf P e = some n) (hx : opd x = some X) (hi : opd i = some I) (hdst : o.dst = some d) (hd : d < G.n)
  (h : In.ok σ (.ida d X I k (n.getD 1) n)) : OpOK P G o (In.ent σ (.ida d X I k (n.getD 1) n)) σ (In.upd σ (.ida d X I k (n.getD 1) n)):=by
 obtain ⟨hi1,h0,hm,h⟩:=h
 obtain ⟨k',hj⟩:=int_val hi1
 simp only [In.upd]
 cases hv : X.val σ with
 | agg cs=>
  rw [hv] at h
  refine .pure hdst hd (fun τ a w F m hag hR=>?_)
  have hso:=opd_fz hR hx (fun t ht=>hag t (List.mem_append_left _ ht))
  have hij:=opd_v hR hi (fun t ht=>hag t (List.mem_append_right _ ht)) hj
  rw [hv] at hso
  obtain ⟨us,hxe,hus⟩:=hso.aggOf
  obtain ⟨v,hfz,h1,h2⟩:=getC_val hus h
  obtain ⟨u',i',_,_,_,hagg⟩:=szOf_some hsz
  refine ⟨v,?_,hfz⟩
  have hs:=run_sizeOf' hsz w
  cases n with
  | none=>
   have h1:=h1 rfl
   simp only [Option.getD_none,Nat.mul_one] at h1
   simp [execOp,ho,hxe,hij,Instr.index,asIntOf,run_underlying hT,h0,hm,hs,part,hagg,h1]
  | some q=>
   obtain ⟨rfl,hle⟩:=h2 q rfl
   simp [execOp,ho,hxe,hij,Instr.index,asIntOf,run_underlying hT,h0,hm,hs,part,hagg]
 | _=>rw [hv] at h; exact h.elim
theorem in_ext {d s i : Nat} (ho : o.op = .extract (.tmp s) i) (hs : s < nb) (hdst : o.dst = some d) (hd : d < G.n) (h : In.ok σ (.ext d s i)) : OpOK P G o (In.ent σ (.ext d s i)) σ (In.upd σ (.ext d s i)):=by
 simp only [In.ok] at h
 simp only [In.upd]
 cases hv : σ s with
 | tup ps=>
  rw [hv] at h
  have h : i < ps.length:=h
  have hp : ps[i]? = some ps[i]:=List.getElem?_eq_getElem h
  refine .pure hdst hd (fun τ a w F m hag hR=>?_)
  have h1:=hR.slots s hs
  rw [hag s (List.mem_singleton.2 rfl),hv] at h1
  obtain ⟨us,hxe,hl,hr⟩:=h1.tupOf
  have hi : i < us.length:=by rw [hl]; exact h
  have hxe' : a.eval (.tmp s) = .tuple us.toArray:=hxe
  refine ⟨us[i],by simp [execOp,ho,hxe',Instr.extract,hi],?_⟩
  rw [List.getD_eq_getElem?_getD,hp]
  exact hr i _ _ hp (List.getElem?_eq_getElem hi)
 | _=>rw [hv] at h; exact h.elim
theorem Fz.lenOf {d : D} {x : Value} (h : Fz w F m d x) (hd : lenOk d) : ∃ a cap,x = .slice a (lenD d) cap ∧ lenD d ≤ cap:=by
 cases h with
 | sl0 m s a cap=>exact ⟨a,cap,rfl,Nat.zero_le _⟩
 | sl m s es b off cap u hs hle hlen hu hr=>exact ⟨_,cap,rfl,hle⟩
 | nul m a=>exact ⟨a,0,rfl,Nat.zero_le _⟩
 | own m g s n b cap cur T hg hs hle hb hcap=>exact ⟨_,cap,rfl,hle⟩
 | own0 m g s a hg=>exact ⟨a,0,rfl,Nat.zero_le _⟩
 | owo m g s o n b cap cur T hg hs hle hb hcap=>exact ⟨_,cap,rfl,hle⟩
 | owo0 m g s o a cap p hg=>exact ⟨a,cap,rfl,Nat.zero_le _⟩
 | _=>exact hd.elim
theorem in_len {d T e : Nat} {x : Operand} {X : Opd} (ho : o.op = .call { callee:=.builtin .len,args:=#[x],argTypes:=#[T] }) (hT : P.underlying T = some (.slice e)) (hx : opd x = some X)
  (hdst : o.dst = some d) (hd : d < G.n) (h : In.ok σ (.len d X)) : OpOK P G o (In.ent σ (.len d X)) σ (In.upd σ (.len d X)):=by
 refine .pure hdst hd (fun τ a w F m hag hR=>⟨_,?_,.v m _⟩)
 obtain ⟨b,c,hb,_⟩:=(opd_fz hR hx hag).lenOf h
 simp [execOp,ho,resolve,invoke,builtin,Builtin.len_,hb,run_underlying hT,goInt]
theorem in_lens {d T : Nat} {x : Operand} {X : Opd} (ho : o.op = .call { callee:=.builtin .len,args:=#[x],argTypes:=#[T] }) (hT : P.underlying T = some .string) (hx : opd x = some X)
  (hdst : o.dst = some d) (hd : d < G.n) (h : In.ok σ (.lens d X)) : OpOK P G o (In.ent σ (.lens d X)) σ (In.upd σ (.lens d X)):=by
 simp only [In.ok] at h
 simp only [In.upd]
 split at h
 ·rename_i b hb
  refine .pure hdst hd (fun τ a w F m hag hR=>⟨_,?_,.v m _⟩)
  simp [execOp,ho,resolve,invoke,builtin,Builtin.len_,opd_v hR hx hag hb,run_underlying hT,goInt]
 ·exact h.elim
theorem in_idx {d T : Nat} {x i : Operand} {X I : Opd} (ho : o.op = .index T x i) (hT : P.underlying T = some .string) (hx : opd x = some X) (hi : opd i = some I)
  (hdst : o.dst = some d) (hd : d < G.n) (h : In.ok σ (.idx d X I)) : OpOK P G o (In.ent σ (.idx d X I)) σ (In.upd σ (.idx d X I)):=by
 simp only [In.ok] at h
 simp only [In.upd]
 split at h
 ·rename_i b hb
  obtain ⟨h1,h0,hm⟩:=h
  obtain ⟨k',hj⟩:=int_val h1
  refine in_two hx hi hdst hd hb hj (fun a w e1 e2=>?_)
  have hjn : (intD σ I).toNat < b.data.size:=by have : b.size = b.data.size:=rfl; omega
  have hget : b[(intD σ I).toNat]? = some (b.data.getD (intD σ I).toNat 0):=by
   have : b[(intD σ I).toNat]? = some b[(intD σ I).toNat]:=by rw [getElem?_pos]
   rw [this]
   congr 1
   show b.data[(intD σ I).toNat] = _
   rw [Array.getD_eq_getD_getElem?,Array.getElem?_eq_getElem hjn]
   rfl
  simp [execOp,ho,e1,e2,Instr.index,asIntOf,run_underlying hT,h0,hget]
 ·exact h.elim
theorem in_ifc {d T : Nat} {td : TypeDesc} {x : Operand} {X : Opd} (ho : o.op = .makeInterface T x) (hT : P.underlying T = some td) (hc : ∀ m,td ≠ .interface m) (hx : opd x = some X) (hdst : o.dst = some d) (hd : d < G.n) :
  OpOK P G o (In.ent σ (.ifc d T X)) σ (In.upd σ (.ifc d T X)):=by
 refine .pure hdst hd (fun τ a w F m hag hR=>⟨_,?_,.ifc m T _ _ (opd_fz hR hx hag)⟩)
 cases td <;> first | (exfalso; exact hc _ rfl) | simp [execOp,ho,Instr.makeInterface,run_underlying hT]
theorem opds_fz (hR : RelF G τ a.tmps w F m) : ∀ {l : List Operand} {Xs : List Opd},l.mapM opd = some Xs → (∀ t,t ∈ Xs.flatMap Opd.rd → τ t = σ t) → (l.map a.eval).length = (Xs.map (Opd.val σ)).length ∧
  ∀ (i : Nat) (d : D) (u : Value),(Xs.map (Opd.val σ))[i]? = some d → (l.map a.eval)[i]? = some u → Fz w F m d u
 | [],Xs,h,_=>by
  obtain rfl : [] = Xs:=by simpa using h
  exact ⟨rfl,fun i d u h=>by simp at h⟩
 | x :: l,Xs,h,hag=>by
  rw [List.mapM_cons] at h
  cases hX : opd x with
  | none=>rw [hX] at h; cases h
  | some X=>
   cases hl : l.mapM opd with
   | none=>rw [hX,hl] at h; cases h
   | some Ys=>
    rw [hX,hl] at h
    obtain rfl : X :: Ys = Xs:=by simpa using h
    obtain ⟨h1,h2⟩:=opds_fz hR hl (fun t ht=>hag t (by rw [List.flatMap_cons]; exact List.mem_append_right _ ht))
    refine ⟨by simpa using h1,fun i d u hd hu=>?_⟩
    cases i with
    | zero=>
     obtain rfl : X.val σ = d:=by simpa using hd
     obtain rfl : a.eval x = u:=by simpa using hu
     exact opd_fz hR hX (fun t ht=>hag t (by rw [List.flatMap_cons]; exact List.mem_append_left _ ht))
    | succ i=>exact h2 i d u (by simpa using hd) (by simpa using hu)
theorem in_mkf {d f : Nat} {xs : Array Operand} {Xs : List Opd} (ho : o.op = .makeFunc (.func f) #[] xs) (hx : xs.toList.mapM opd = some Xs) (hdst : o.dst = some d) (hd : d < G.n) : OpOK P G o (In.ent σ (.mkf d f Xs)) σ (In.upd σ (.mkf d f Xs)):=by
 refine .pure hdst hd (fun τ a w F m hag hR=>⟨.func (.func f) #[] (xs.toList.map a.eval).toArray,by
  rw [show (xs.toList.map a.eval).toArray = xs.map a.eval from Array.ext' (by simp)]
  simp [execOp,ho,Instr.makeFunc],?_⟩)
 obtain ⟨h1,h2⟩:=opds_fz hR hx hag
 exact .fn m f _ _ h1 h2
theorem in_mkb {d : Nat} {name : String} {x : Operand} {X : Opd} (ho : o.op = .makeFunc (.method name) #[x] #[]) (hx : opd x = some X) (hdst : o.dst = some d) (hd : d < G.n) (h : In.ok σ (.mkb d name X)) : OpOK P G o (In.ent σ (.mkb d name X)) σ (In.upd σ (.mkb d name X)):=by
 simp only [In.ok] at h
 simp only [In.upd]
 cases hv : X.val σ with
 | ifc t e=>
  refine .pure hdst hd (fun τ a w F m hag hR=>?_)
  have h1:=opd_fz hR hx hag
  rw [hv] at h1
  generalize hy : a.eval x = y at h1
  cases h1 with
  | ifc _ _ _ v hv'=>exact ⟨.func (.method name) #[.iface t v] #[],by simp [execOp,ho,Instr.makeFunc,hy],.bnd m t name e v hv'⟩
 | _=>rw [hv] at h; exact h.elim
theorem in_mkm {d f : Nat} {x : Operand} {X : Opd} (ho : o.op = .makeFunc (.func f) #[x] #[]) (hx : opd x = some X) (hdst : o.dst = some d) (hd : d < G.n) : OpOK P G o (In.ent σ (.mkm d f X)) σ (In.upd σ (.mkm d f X)):=by
 refine .pure hdst hd (fun τ a w F m hag hR=>⟨.func (.func f) #[a.eval x] #[],by simp [execOp,ho,Instr.makeFunc],.mv m f _ _ (opd_fz hR hx hag)⟩)
theorem in_nilc {d s : Nat} (ho : o.op = .nilCheck (.tmp s)) (hs : s < nb) (hdst : o.dst = some d) (hd : d < G.n) (h : In.ok σ (.nilc d s)) : OpOK P G o (In.ent σ (.nilc d s)) σ (In.upd σ (.nilc d s)):=by
 simp only [In.ok] at h
 simp only [In.upd]
 refine .pure hdst hd (fun τ a w F m hag hR=>?_)
 have h1:=hR.slots s hs
 rw [hag s (List.mem_singleton.2 rfl)] at h1
 have hx : a.eval (.tmp s) = a.tmps.getD s undef:=rfl
 refine ⟨a.tmps.getD s undef,?_,h1⟩
 generalize hy : a.tmps.getD s undef = x at h1
 rw [hy] at hx
 generalize hv : σ s = d' at h h1
 cases h1 with
 | ref=>simp [execOp,ho,hx]
 | eref=>simp [execOp,ho,hx]
 | ptr=>simp [execOp,ho,hx]
 | ifc=>simp [execOp,ho,hx]
 | fn=>simp [execOp,ho,hx]
 | mv=>simp [execOp,ho,hx]
 | _=>exact h.elim
end
end
section
open Go.RowKit
section
variable {P : Program} {G : Ctx} {o : Oper} {σ τ : Env} {a : Act} {w : World} {F : Cells} {m : Names}
inductive Bound : Option Operand → Option Opd → Prop where
 | none : Bound none none
 | some (x : Operand) (X : Opd) (hx : opd x = some X) : Bound (some x) (some X)
theorem bound_val {x : Option Operand} {X : Option Opd} (hb : Bound x X) {k : Nat} (h : boundOk σ X) (hag : ∀ t,t ∈ optRd X → τ t = σ t) (hR : RelF G τ a.tmps w F m) :
  (x.map a.eval = none ∧ boundD σ X k = k) ∨ ∃ j,x.map a.eval = some (.int j (boundD σ X k)):=by
 cases hb with
 | none=>exact .inl ⟨rfl,rfl⟩
 | some x X hx=>
  obtain ⟨j,hn⟩:=int_val h
  exact .inr ⟨j,by simp [opd_v hR hx hag hn,boundD]⟩
theorem run_bounds (isSlice : Bool) {len cap : Nat} {lo hi : Option Value} {l h : Int} (hl : (lo = none ∧ l = 0) ∨ ∃ k,lo = some (.int k l)) (hh : (hi = none ∧ h = len) ∨ ∃ k,hi = some (.int k h)) (h0 : 0 ≤ l) (hlh : l ≤ h) (hhl : h ≤ len) (hlc : len ≤ cap) (w : World) :
  (Instr.sliceBounds isSlice len cap lo hi none).run P w = .ok (l.toNat,h.toNat,cap) w:=by
 have hbh : ∀ (k : IntKind) (code : BoundsCode),(Instr.sliceBound (.int k h) cap code).run P w = .ok h.toNat w:=by
  intro k code
  have : 0 ≤ h ∧ h ≤ (cap : Int):=⟨by omega,by omega⟩
  simp [Instr.sliceBound,asIntOf,this]
 have hbl : ∀ (k : IntKind) (code : BoundsCode) (m : Nat),l ≤ m → (Instr.sliceBound (.int k l) m code).run P w = .ok l.toNat w:=by
  intro k code m hm
  have : 0 ≤ l ∧ l ≤ (m : Int):=⟨h0,hm⟩
  simp [Instr.sliceBound,asIntOf,this]
 rcases hl with ⟨rfl,rfl⟩ | ⟨k,rfl⟩ <;> rcases hh with ⟨rfl,rfl⟩ | ⟨k',rfl⟩
 ·simp [Instr.sliceBounds]
 ·simp [Instr.sliceBounds,hbh k']
 ·simp [Instr.sliceBounds,hbl k _ len (by omega)]
 ·simp [Instr.sliceBounds,hbh k',hbl k _ h.toNat (by omega)]
theorem part_cells {s : Nat} {es : List D} {us : List Value} (hs : 0 < s) (hlen : ∀ (e : D),e ∈ es → e.cells.length = s) (hc : CellsOK w F m (D.flat es) us) (l h : Nat) (hlh : l ≤ h) (hhl : h ≤ es.length) :
  (∀ (e : D),e ∈ (es.take h).drop l → e.cells.length = s) ∧ ((es.take h).drop l).length = h - l ∧ CellsOK w F m (D.flat ((es.take h).drop l)) ((us.drop (l * s)).take ((h - l) * s)):=by
 have hlp : ∀ (e : D),e ∈ (es.take h).drop l → e.cells.length = s:=fun e he=>hlen e (List.mem_of_mem_take (List.mem_of_mem_drop he))
 have hpl : ((es.take h).drop l).length = h - l:=by rw [List.length_drop,List.length_take,Nat.min_eq_left hhl]
 have hfl : ∀ k,k < (h - l) * s → (D.flat ((es.take h).drop l))[k]? = (D.flat es)[l * s + k]?:=by
  intro k hk
  have hq : k / s < h - l:=Nat.div_lt_of_lt_mul (by rw [Nat.mul_comm]; exact hk)
  have h1:=flat_get hlp (k / s) (k % s) (Nat.mod_lt _ hs)
  have h2:=flat_get hlen (l + k / s) (k % s) (Nat.mod_lt _ hs)
  rw [Nat.div_add_mod' k s] at h1
  rw [Nat.add_mul,Nat.add_assoc,Nat.div_add_mod' k s] at h2
  rw [h1,h2,List.getElem?_drop,List.getElem?_take,if_pos (by omega)]
 have hus : us.length = es.length * s:=by rw [hc.len,flat_len hlen]
 have hle : l * s + (h - l) * s ≤ es.length * s:=by rw [← Nat.add_mul]; exact Nat.mul_le_mul_right _ (by omega)
 have hsl : ((us.drop (l * s)).take ((h - l) * s)).length = (h - l) * s:=by rw [List.length_take,List.length_drop,hus]; omega
 refine ⟨hlp,hpl,by rw [hsl,flat_len hlp,hpl],fun u hu'=>hc.one u (List.mem_of_mem_drop (List.mem_of_mem_take hu')),fun j d u hd hu'=>?_⟩
 have hj : j < (h - l) * s:=by rw [← hsl]; exact (List.getElem?_eq_some_iff.1 hu').1
 rw [List.getElem?_take,if_pos hj,List.getElem?_drop] at hu'
 rw [hfl j hj] at hd
 exact hc.fz _ d u hd hu'
theorem in_slc {d T e st : Nat} {sz : Option Nat} {x : Operand} {lo hi : Option Operand} {X : Opd} {L H : Option Opd} (ho : o.op = .slice T x lo hi none) (hT : P.underlying T = some (.slice e)) (hsz : szOf P e = some sz) (hst : sz.getD 1 = st) (hx : opd x = some X)
  (hL : Bound lo L) (hH : Bound hi H) (hdst : o.dst = some d) (hd : d < G.n) (h : In.ok σ (.slc d X L H st)) : OpOK P G o (In.ent σ (.slc d X L H st)) σ (In.upd σ (.slc d X L H st)):=by
 simp only [In.ok] at h
 simp only [In.upd]
 obtain ⟨hbl,hbh,h⟩:=h
 have key : ∀ (δ : D),(∀ (a' : Act) (w : World) (F : Cells) (m : Names),Fz w F m (X.val σ) (a'.eval x) → (∀ k,(lo.map a'.eval = none ∧ boundD σ L k = k) ∨ ∃ j,lo.map a'.eval = some (.int j (boundD σ L k))) → (∀ k,(hi.map a'.eval = none ∧ boundD σ H k = k) ∨ ∃ j,hi.map a'.eval = some (.int j (boundD σ H k))) →
   ∃ v,(execOp a'.eval o).run P w = .ok (.value v) w ∧ Fz w F m δ v) → OpOK P G o (In.ent σ (.slc d X L H st)) σ [(d,δ)]:=by
  intro δ hk
  refine .pure hdst hd (fun τ a' w F m hag hR=>?_)
  exact hk a' w F m (opd_fz hR hx (fun t ht=>hag t (List.mem_append_left _ (List.mem_append_left _ ht)))) (fun k=>bound_val hL hbl (fun t ht=>hag t (List.mem_append_left _ (List.mem_append_right _ ht))) hR)
   (fun k=>bound_val hH hbh (fun t ht=>hag t (List.mem_append_right _ ht)) hR)
 have hs:=fun w=>run_sizeOf' hsz w
 have run : ∀ (a' : Act) (w : World) (q : Option Addr) (len cap : Nat) (l k : Int),a'.eval x = .slice q len cap → (lo.map a'.eval = none ∧ l = 0) ∨ (∃ j,lo.map a'.eval = some (.int j l)) → (hi.map a'.eval = none ∧ k = len) ∨ (∃ j,hi.map a'.eval = some (.int j k)) → 0 ≤ l → l ≤ k → k ≤ len → len ≤ cap →
   (execOp a'.eval o).run P w = .ok (.value (.slice (if cap = l.toNat then q else q.map (·.add (l.toNat * st))) (k.toNat - l.toNat) (cap - l.toNat))) w:=by
  intro a' w q len cap l k hxe hl hm h0 hlm hme hlc
  have hrun:=run_bounds (P:=P) true (cap:=cap) hl hm h0 hlm hme hlc w
  rw [← hst]
  simp [execOp,ho,Instr.sliceAt,Instr.slice,run_underlying hT,hxe,hrun,hs]
 cases hv : X.val σ with
 | sl b es=>
  rw [hv] at h
  obtain ⟨ha,h0,hlm,hme⟩:=h
  refine key _ (fun a' w F m hf hl hm=>?_)
  rw [hv] at hf
  obtain ⟨q,cap,hxe,hlc⟩:=hf.lenOf (by trivial)
  have hl:=hl 0
  have hm:=hm es.length
  generalize boundD σ L 0 = l at h0 hlm hl ⊢
  generalize boundD σ H es.length = k at hlm hme hm ⊢
  refine ⟨_,run a' w q es.length cap l k hxe (by simpa using hl) hm h0 hlm hme hlc,?_⟩
  have hlen : ((es.take k.toNat).drop l.toNat).length = k.toNat - l.toNat:=by rw [List.length_drop,List.length_take,Nat.min_eq_left (by omega)]
  have empty : k.toNat - l.toNat = 0 → ∀ q' c,Fz w F m (.sl b ((es.take k.toNat).drop l.toNat)) (.slice q' (k.toNat - l.toNat) c):=by
   intro h0 q' c
   rw [h0] at hlen ⊢
   rw [List.eq_nil_of_length_eq_zero hlen]
   exact .sl0 m b q' c
  rcases hf.slCells with ⟨rfl,_⟩ | ⟨c,off,cap',us,hxe',hlc',hs0,hel,hus,huc⟩
  ·exact empty (by simp at hme; omega) _ _
  ·rw [hxe] at hxe'
   obtain ⟨rfl,rfl⟩ : q = some ⟨c,off,none⟩ ∧ cap = cap':=by simpa [lenD] using hxe'
   by_cases hc : cap = l.toNat
   ·exact empty (by simp only [lenD] at hlc; omega) _ _
   ·rw [if_neg hc,Option.map_some,Addr.add_lit]
    rcases ha with rfl | rfl
    ·obtain ⟨h1,h2,h3⟩:=part_cells hs0 hel hus l.toNat k.toNat (by omega) (by omega)
     have:=Fz.ofCells (m:=m) (b:=c) (off:=off + l.toNat * b) (cap:=cap - l.toNat) hs0 (by rw [h2]; simp only [lenD] at hlc; omega) h1 h3 (fun j v hj=>by
      rw [List.getElem?_take] at hj
      split at hj
      ·rw [List.getElem?_drop] at hj
       rw [Nat.add_assoc]
       exact huc _ v hj
      ·cases hj)
     rw [h2] at this
     exact this
    ·simp only [List.length_nil] at hme hlc'
     exact empty (by omega) _ _
 | own g s n=>
  rw [hv] at h
  obtain ⟨hst2,h0l,h0,hme⟩:=h
  refine key _ (fun a' w F m hf hl hm=>?_)
  rw [hv] at hf
  have hl:=hl 0
  have hm:=hm n
  have hL0 : L.isSome = false → boundD σ L 0 = 0:=fun hn=>by cases L with
   | none=>rfl
   | some x=>cases hn
  have hst3 : L.isSome = true → s = st:=fun hn=>hst2.resolve_right (fun e=>by rw [e] at hn; cases hn)
  clear hst2
  generalize L.isSome = Lb at hL0 hst3 ⊢
  generalize boundD σ L 0 = l at h0l h0 hl hL0 ⊢
  generalize boundD σ H n = k at h0 hme hm ⊢
  generalize hy : a'.eval x = y at hf
  cases hf with
  | own _ _ _ _ b cap cur U hg h00 hle hb hcap=>
   refine ⟨_,run a' w _ n cap l k hy (by simpa using hl) hm h0l h0 hme hle,?_⟩
   cases Lb with
   | false=>
    obtain rfl:=hL0 rfl
    have e1 : (if cap = Int.toNat 0 then some ⟨b,0,none⟩ else (some (⟨b,0,none⟩ : Addr)).map (·.add (Int.toNat 0 * st))) = some ⟨b,0,none⟩:=by split <;> simp [Addr.add_lit]
    rw [e1]
    exact .own m g s _ b _ cur U hg h00 (by simp; omega) hb (by simpa using hcap)
   | true=>
    obtain rfl:=hst3 rfl
    rw [ownSl_t]
    by_cases hc : cap = l.toNat
    ·have e0 : k.toNat - l.toNat = 0:=by omega
     rw [e0]
     exact .owo0 m g s l.toNat _ _ (some b) hg
    ·rw [if_neg hc,Option.map_some,Addr.add_lit,Nat.zero_add]
     refine .owo m g s l.toNat _ b _ cur U hg h00 (by omega) hb ?_
     rw [show l.toNat + (cap - l.toNat) = cap by omega]
     exact hcap
  | own0 _ _ _ q hg=>
   obtain rfl : k = 0:=by omega
   obtain rfl : l = 0:=by omega
   refine ⟨_,run a' w q 0 0 0 0 hy (by simpa using hl) hm (Int.le_refl _) (Int.le_refl _) (Int.le_refl _) (Nat.le_refl _),?_⟩
   cases Lb with
   | false=>exact .own0 m g s q hg
   | true=>exact .owo0 m g s 0 q 0 none hg
 | owo g s o n=>
  rw [hv] at h
  obtain ⟨rfl,h0l,h0,hme⟩:=h
  refine key _ (fun a' w F m hf hl hm=>?_)
  rw [hv] at hf
  have hl:=hl 0
  have hm:=hm n
  generalize boundD σ L 0 = l at h0l h0 hl ⊢
  generalize boundD σ H n = k at h0 hme hm ⊢
  generalize hy : a'.eval x = y at hf
  cases hf with
  | owo _ _ _ _ _ b cap cur U hg h00 hle hb hcap=>
   refine ⟨_,run a' w _ n cap l k hy (by simpa using hl) hm h0l h0 hme hle,?_⟩
   by_cases hc : cap = l.toNat
   ·have e0 : k.toNat - l.toNat = 0:=by omega
    rw [e0]
    exact .owo0 m g s _ _ _ (some b) hg
   ·rw [if_neg hc,Option.map_some,Addr.add_lit,← Nat.add_mul]
    refine .owo m g s _ _ b _ cur U hg h00 (by omega) hb ?_
    rw [show o + l.toNat + (cap - l.toNat) = o + cap by omega]
    exact hcap
  | owo0 _ _ _ _ q cap p hg=>
   obtain rfl : k = 0:=by omega
   obtain rfl : l = 0:=by omega
   refine ⟨_,run a' w q 0 cap 0 0 hy (by simpa using hl) hm (Int.le_refl _) (Int.le_refl _) (Int.le_refl _) (Nat.zero_le _),?_⟩
   exact .owo0 m g s _ _ _ p hg
 | nul=>
  rw [hv] at h
  obtain ⟨hl0,hh0⟩:=h
  refine key _ (fun a' w F m hf hl hm=>?_)
  rw [hv] at hf
  have hl:=hl 0
  have hm:=hm 0
  rw [hl0] at hl
  rw [hh0] at hm
  generalize hy : a'.eval x = y at hf
  cases hf with
  | nul _ q=>
   refine ⟨_,run a' w q 0 0 0 0 hy (by simpa using hl) (by simpa using hm) (Int.le_refl _) (Int.le_refl _) (Int.le_refl _) (Nat.le_refl _),?_⟩
   exact .nul m q
 | _=>rw [hv] at h; exact h.elim
theorem in_slcs {d T : Nat} {x : Operand} {lo hi : Option Operand} {X : Opd} {L H : Option Opd} (ho : o.op = .slice T x lo hi none) (hT : P.underlying T = some .string) (hx : opd x = some X)
  (hL : Bound lo L) (hH : Bound hi H) (hdst : o.dst = some d) (hd : d < G.n) (h : In.ok σ (.slcs d X L H)) : OpOK P G o (In.ent σ (.slcs d X L H)) σ (In.upd σ (.slcs d X L H)):=by
 simp only [In.ok] at h
 simp only [In.upd]
 split at h
 ·rename_i b hb
  obtain ⟨hbl,hbh,h0,hlm,hme⟩:=h
  refine .pure hdst hd (fun τ a w F m hag hR=>⟨_,?_,.v m _⟩)
  have hxe:=opd_v hR hx (fun t ht=>hag t (List.mem_append_left _ (List.mem_append_left _ ht))) hb
  have hl:=bound_val hL hbl (k:=0) (fun t ht=>hag t (List.mem_append_left _ (List.mem_append_right _ ht))) hR
  have hm:=bound_val hH hbh (k:=b.size) (fun t ht=>hag t (List.mem_append_right _ ht)) hR
  have hrun:=run_bounds (P:=P) false (cap:=b.size) hl hm h0 hlm hme (Nat.le_refl _) w
  simp [execOp,ho,Instr.sliceAt,Instr.slice,run_underlying hT,hxe,hrun]
 ·exact h.elim
def zsOf (P : Program) (T : TypeId) : Option (List D):=
 match P.info? T with
 | some i=>match i.zero with
  | some z=>if z.cells.toList.all (fun x=>x.oneCell') then some (z.cells.toList.map constD) else none
  | none=>none
 | none=>none
theorem zsOf_some {T : TypeId} {zs : List D} (h : zsOf P T = some zs) : ∃ i z,P.info? T = some i ∧ i.zero = some z ∧ (∀ w F m,CellsOK w F m zs z.cells.toList) ∧ D.purL zs = true:=by
 unfold zsOf at h
 split at h
 ·rename_i i hi
  split at h
  ·rename_i z hz
   split at h
   ·rename_i h1
    obtain rfl : z.cells.toList.map constD = zs:=by simpa using h
    refine ⟨i,z,hi,hz,fun w F m=>⟨by simp,fun u hu=>List.all_eq_true.1 h1 u hu,fun j d u hd hu=>?_⟩,D.purL_iff.2 (fun d hd=>?_)⟩
    ·rw [List.getElem?_map,hu] at hd
     obtain rfl : constD u = d:=by simpa using hd
     exact constD_fz w F m u
    ·obtain ⟨x,_,rfl⟩:=List.mem_map.1 hd
     exact constD_pur x
   ·cases h
  ·cases h
 ·cases h
inductive Parts (place : Nat → Option (Nat × Nat)) : List (Nat × Operand) → List (Nat × Option Nat × Opd) → Prop where
 | nil : Parts place [] []
 | cons (i off : Nat) (n : Option Nat) (x : Operand) (X : Opd) (l : List (Nat × Operand)) (m : List (Nat × Option Nat × Opd)) (hp : place i = some (off,n.getD 1)) (hx : opd x = some X) (h : Parts place l m) :
   Parts place ((i,x) :: l) ((off,n,X) :: m)
theorem fill_run {place : Nat → Option (Nat × Nat)} (hR : RelF G τ a.tmps w F m) {l : List (Nat × Operand)} {q : List (Nat × Option Nat × Opd)} (hp : Parts place l q) :
  ∀ (cs : List D) (xs : List Value),(∀ t,t ∈ (q.flatMap fun p=>p.2.2.rd) → τ t = σ t) → fillOk σ q cs → CellsOK w F m cs xs →
   ∃ ys,Instr.fill place xs.toArray (l.map fun p=>(p.1,a.eval p.2)) = some ys.toArray ∧ CellsOK w F m (fillD σ q cs) ys:=by
 induction hp with
 | nil=>intro cs xs _ _ hc; exact ⟨xs,rfl,hc⟩
 | cons i off n x X l q hpl hx hp ih=>
  intro cs xs hag h hc
  obtain ⟨hok,hle,h1⟩:=h
  have hcv:=asC_val (opd_fz hR hx (fun t ht=>hag t (by rw [List.flatMap_cons]; exact List.mem_append_left _ ht))) hok
  have hlv:=asC_length hok
  have hsz : (a.eval x).cells.size = n.getD 1:=by rw [← hlv,← hcv.len]; simp
  have hle' : off + (a.eval x).cells.size ≤ xs.toArray.size:=by rw [hsz,List.size_toArray,hc.len]; exact hle
  have hset:=hc.setAll hcv off (by rw [hlv]; exact hle)
  rw [← setC_all _ _ _ _ hok hle] at hset
  obtain ⟨ys,hf,hy⟩:=ih _ _ (fun t ht=>hag t (by rw [List.flatMap_cons]; exact List.mem_append_right _ ht)) h1 hset
  refine ⟨ys,?_,hy⟩
  rw [List.map_cons,Instr.fill]
  simp only [hpl]
  rw [if_neg (fun hh=>by rw [Bool.or_eq_true,decide_eq_true_eq,decide_eq_true_eq] at hh; exact hh.elim (fun h=>h hsz) (fun h=>absurd hle' (by omega))),fill_set off _ _ hle']
  exact hf
def placeOf (P : Program) (T : TypeId) : Option (Nat → Option (Nat × Nat)):=
 match P.underlying T with
 | some (.struct fields)=>match fields.toList.mapM (fun f=>(P.info? f.type).map fun i=>(f.offset,i.size)) with
  | some places=>some fun i=>places.toArray[i]?
  | none=>none
 | some (.array _ e)=>match P.info? e with
  | some ie=>some fun i=>some (i * ie.size,ie.size)
  | none=>none
 | _=>none
theorem built_of {T : TypeId} {place : Nat → Option (Nat × Nat)} (h : placeOf P T = some place) {i : TypeInfo} {z : Value} (hi : P.info? T = some i) (hz : i.zero = some z) (l : List (Nat × Value)) :
  P.built T l = Instr.fill place z.cells l:=by
 unfold placeOf at h
 unfold Program.built
 split at h
 ·rename_i fields hu
  split at h
  ·rename_i places hp
   obtain rfl:=Option.some.inj h
   simp only [hi,hu,hz,hp]
  ·cases h
 ·rename_i m e hu
  split at h
  ·rename_i ie hie
   obtain rfl:=Option.some.inj h
   simp only [hi,hu,hz,hie]
  ·cases h
 ·cases h
theorem in_build {d : Nat} {T : TypeId} {zs : List D} {ps : Array (Nat × Operand)} {qs : List (Nat × Option Nat × Opd)} {place : Nat → Option (Nat × Nat)} (ho : o.op = .build T ps) (hz : zsOf P T = some zs) (hpl : placeOf P T = some place)
  (hq : Parts place ps.toList qs) (hdst : o.dst = some d) (hd : d < G.n) (h : In.ok σ (.build d zs qs)) : OpOK P G o (In.ent σ (.build d zs qs)) σ (In.upd σ (.build d zs qs)):=by
 obtain ⟨i,z,hi,hzz,hzc,_⟩:=zsOf_some hz
 refine .pure hdst hd (fun τ a w F m hag hR=>?_)
 obtain ⟨ys,hf,hy⟩:=fill_run hR hq _ z.cells.toList hag h (hzc w F m)
 refine ⟨.agg ys.toArray,?_,.agg m _ ys hy.len hy.one hy.fz⟩
 have hb:=run_build (P:=P) w T (ps.map fun (i,x)=>(i,a.eval x)) ys.toArray (by
  rw [built_of hpl hi hzz,← hf]
  congr 1
  simp)
 simp [execOp,ho,hb]
inductive Elems : List (Nat × Operand) → List (Nat × Opd) → Prop where
 | nil : Elems [] []
 | cons (i : Nat) (x : Operand) (X : Opd) (l : List (Nat × Operand)) (m : List (Nat × Opd)) (hx : opd x = some X) (h : Elems l m) : Elems ((i,x) :: l) ((i,X) :: m)
theorem asC_cells {d : D} {n : Option Nat} (h : D.asCok d n) : d.cells = D.asC d n:=by
 cases n with
 | none=>
  have h : d.one = true:=h
  cases d <;> first | rfl | cases h
 | some n=>
  cases d with
  | agg us=>rfl
  | _=>exact h.elim
theorem elems_run (hR : RelF G τ a.tmps w F m) {n : Option Nat} {l : List (Nat × Operand)} {q : List (Nat × Opd)} (hp : Elems l q) :
  ∀ (es : List D) (xs : List Value),(∀ t,t ∈ (q.flatMap fun p=>p.2.rd) → τ t = σ t) → (∀ (e : D),e ∈ es → e.cells.length = n.getD 1) → elemsOk σ n q es → CellsOK w F m (D.flat es) xs →
   ∃ ys,Instr.fill (fun i=>some (i * n.getD 1,n.getD 1)) xs.toArray (l.map fun p=>(p.1,a.eval p.2)) = some ys.toArray ∧ CellsOK w F m (D.flat (elemsD σ n q es)) ys ∧ (elemsD σ n q es).length = es.length ∧ ∀ (e : D),e ∈ elemsD σ n q es → e.cells.length = n.getD 1:=by
 induction hp with
 | nil=>intro es xs _ hlen _ hc; exact ⟨xs,rfl,hc,rfl,hlen⟩
 | cons i x X l q hx hp ih=>
  intro es xs hag hlen h hc
  obtain ⟨hok,hi,h1⟩:=h
  have hcv:=asC_val (opd_fz hR hx (fun t ht=>hag t (by rw [List.flatMap_cons]; exact List.mem_append_left _ ht))) hok
  have hlv:=asC_length hok
  have he : (X.val σ).cells.length = n.getD 1:=by rw [asC_cells hok]; exact hlv
  have hle : i * n.getD 1 + n.getD 1 ≤ (D.flat es).length:=by
   rw [flat_len hlen]
   have : (i + 1) * n.getD 1 ≤ es.length * n.getD 1:=Nat.mul_le_mul_right _ hi
   rw [Nat.add_mul] at this
   omega
  have hsz : (a.eval x).cells.size = n.getD 1:=by rw [← hlv,← hcv.len]; simp
  have hle' : i * n.getD 1 + (a.eval x).cells.size ≤ xs.toArray.size:=by have e1:=hc.len; simp only [List.size_toArray]; omega
  have hset:=hc.setAll hcv (i * n.getD 1) (by rw [hlv]; exact hle)
  rw [← asC_cells hok,← flat_set hlen hi he] at hset
  obtain ⟨ys,hf,hy,hl2,hl3⟩:=ih _ _ (fun t ht=>hag t (by rw [List.flatMap_cons]; exact List.mem_append_right _ ht)) (fun f hf=>by
   rcases List.mem_or_eq_of_mem_set hf with hf | rfl
   ·exact hlen f hf
   ·exact he) h1 hset
  refine ⟨ys,?_,hy,by rw [elemsD,hl2,List.length_set],hl3⟩
  rw [List.map_cons,Instr.fill]
  simp only
  rw [if_neg (fun hh=>by rw [Bool.or_eq_true,decide_eq_true_eq,decide_eq_true_eq] at hh; exact hh.elim (fun h=>h hsz) (fun h=>absurd hle' (by omega))),fill_set _ _ _ hle']
  exact hf
def zeroElem (n : Option Nat) (zs : List D) : D:=
 match n with
 | none=>zs.headD .any
 | some _=>.agg zs
theorem zero_cells {T : TypeId} {zs : List D} {n : Option Nat} (hz : zsOf P T = some zs) (hn : zs.length = n.getD 1) :
  ∃ i z,P.info? T = some i ∧ i.zero = some z ∧ z.cells.size = n.getD 1 ∧ (zeroElem n zs).cells.length = n.getD 1 ∧ ∀ w F m,CellsOK w F m (zeroElem n zs).cells z.cells.toList:=by
 obtain ⟨i,z,hi,hzz,hzc,hpu⟩:=zsOf_some hz
 have hzl : z.cells.toList.length = n.getD 1:=by rw [(hzc default (fun _ _=>False) noNames).len]; exact hn
 have hce : (zeroElem n zs).cells = zs:=by
  cases n with
  | some n=>rfl
  | none=>
   cases zs with
   | nil=>cases hn
   | cons d l=>
    cases l with
    | cons y l=>simp at hn
    | nil=>
     have h1:=(hzc default (fun _ _=>False) noNames).one
     have h2:=(hzc default (fun _ _=>False) noNames).fz
     show d.cells = [d]
     cases d with
     | agg cs=>
      exfalso
      cases hl : z.cells.toList with
      | nil=>rw [hl] at hzl; cases hzl
      | cons u us=>
       have h3:=h2 0 _ u rfl (by rw [hl]; rfl)
       have h4:=h1 u (by rw [hl]; exact List.mem_cons_self ..)
       cases h3 with
       | agg=>simp [Value.oneCell'] at h4
     | _=>rfl
 exact ⟨i,z,hi,hzz,by simpa using hzl,by rw [hce]; exact hn,fun w F m=>by rw [hce]; exact hzc w F m⟩
theorem made_cells {e : D} {z : Value} {s : Nat} (h0 : 0 < s) (hzs : z.cells.size = s) (he : e.cells.length = s) (hc : CellsOK w F m e.cells z.cells.toList) (k : Nat) :
  CellsOK w F m (D.flat (List.replicate k e)) ((Array.range (k * s)).map (z.cells[· % z.cells.size]!)).toList:=by
 have hlen : ∀ (f : D),f ∈ List.replicate k e → f.cells.length = s:=fun f hf=>by rw [(List.mem_replicate.1 hf).2]; exact he
 have hget : ∀ j,j < k * s → ((Array.range (k * s)).map (z.cells[· % z.cells.size]!)).toList[j]? = z.cells.toList[j % s]?:=by
  intro j hj
  have hks : j % s < z.cells.size:=by rw [hzs]; exact Nat.mod_lt _ h0
  rw [Array.getElem?_toList,Array.getElem?_map,Array.getElem?_eq_getElem (by simpa using hj)]
  simp only [Array.getElem_range,Option.map_some,hzs]
  rw [getElem!_pos z.cells (j % s) hks,Array.getElem?_toList,Array.getElem?_eq_getElem hks]
 have hsz : ((Array.range (k * s)).map (z.cells[· % z.cells.size]!)).toList.length = k * s:=by simp
 refine ⟨by rw [hsz,flat_len hlen]; simp,fun u hu=>?_,fun j d u hd hu=>?_⟩
 ·obtain ⟨j,hj⟩:=List.mem_iff_getElem?.1 hu
  have hj' : j < k * s:=by rw [← hsz]; exact (List.getElem?_eq_some_iff.1 hj).1
  rw [hget j hj'] at hj
  exact hc.one u (List.mem_of_getElem? hj)
 ·have hj' : j < k * s:=by rw [← hsz]; exact (List.getElem?_eq_some_iff.1 hu).1
  rw [hget j hj'] at hu
  have hkm : j / s < k:=Nat.div_lt_of_lt_mul (by rw [Nat.mul_comm]; exact hj')
  have h1:=flat_get hlen (j / s) (j % s) (Nat.mod_lt _ h0)
  rw [Nat.div_add_mod' j s,hd,List.getElem?_replicate,if_pos hkm] at h1
  exact hc.fz (j % s) d u h1.symm hu
theorem run_bsl {T e k : Nat} {n : Option Nat} {zs : List D} {ps : Array (Nat × Operand)} {qs : List (Nat × Opd)} (ho : o.op = .buildSlice T k ps) (hT : P.underlying T = some (.slice e)) (hsz : szOf P e = some n) (h0 : 0 < n.getD 1)
  (hz : zsOf P e = some zs) (hn : zs.length = n.getD 1) (hm : k * n.getD 1 ≤ 2 ^ 24) (hq : Elems ps.toList qs) (hR : RelF G τ a.tmps w F m) (hag : ∀ t,t ∈ (qs.flatMap fun p=>p.2.rd) → τ t = σ t)
  (h : elemsOk σ n qs (List.replicate k (zeroElem n zs))) : ∃ ys : List Value,(execOp a.eval o).run P w = .ok (.value (.slice (some ⟨w.heap.size,0,none⟩) k k)) (w.alloc (.cells ys.toArray e)) ∧
   CellsOK w F m (D.flat (elemsD σ n qs (List.replicate k (zeroElem n zs)))) ys ∧ (elemsD σ n qs (List.replicate k (zeroElem n zs))).length = k ∧ ∀ (e : D),e ∈ elemsD σ n qs (List.replicate k (zeroElem n zs)) → e.cells.length = n.getD 1:=by
 obtain ⟨i,z,hi,hzz,hzs,hel,hzc⟩:=zero_cells hz hn
 have hmade:=made_cells h0 hzs hel (hzc w F m) k
 have hlen : ∀ (f : D),f ∈ List.replicate k (zeroElem n zs) → f.cells.length = n.getD 1:=fun f hf=>by rw [(List.mem_replicate.1 hf).2]; exact hel
 obtain ⟨ys,hf,hy,hul,hu1⟩:=elems_run hR hq _ _ hag hlen h hmade
 rw [List.length_replicate] at hul
 refine ⟨ys,?_,hy,hul,hu1⟩
 have hs:=run_sizeOf' hsz w
 have hz1 : (zeroValue e).run P w = .ok z w:=by simp [zeroValue,typeInfo,hi,hzz]
 have hnot : ¬ (k * n.getD 1 > 2 ^ 24):=by omega
 have hf' : Instr.fill (fun i=>some (i * n.getD 1,n.getD 1)) ((Array.range (k * n.getD 1)).map (z.cells[· % z.cells.size]!)) (ps.map fun x=>(x.1,a.eval x.2)).toList = some ys.toArray:=by
  rw [← hf]
  congr 1
  simp
 simp only [execOp,ho,Instr.buildSlice]
 rw [Sem.run_bind,Sem.run_bind,run_underlying hT,Result.andThen_ok,Sem.run_bind,hs,Result.andThen_ok,if_neg hnot]
 by_cases hz0 : k * n.getD 1 = 0
 ·have e0 : Array.map (fun x=>(#[] : Array Value)[x % (#[] : Array Value).size]!) (Array.range (k * n.getD 1)) = (Array.range (k * n.getD 1)).map (z.cells[· % z.cells.size]!):=by rw [hz0]; simp
  simp only [if_pos hz0,Sem.run_bind,Sem.run_pure,Result.andThen_ok,e0,hf',newRow,run_newObj,World.alloc_eq]
 ·simp only [if_neg hz0,Sem.run_bind,Sem.run_pure,Result.andThen_ok,hz1,hf',newRow,run_newObj,World.alloc_eq]
theorem in_bsl {d T e k : Nat} {n : Option Nat} {zs : List D} {ps : Array (Nat × Operand)} {qs : List (Nat × Opd)} (ho : o.op = .buildSlice T k ps) (hT : P.underlying T = some (.slice e)) (hsz : szOf P e = some n) (h0 : 0 < n.getD 1)
  (hz : zsOf P e = some zs) (hn : zs.length = n.getD 1) (hm : k * n.getD 1 ≤ 2 ^ 24) (hq : Elems ps.toList qs) (hdst : o.dst = some d) (hd : d < G.n) (h : In.ok σ (.bsl d (n.getD 1) n (List.replicate k (zeroElem n zs)) qs)) :
  OpOK P G o (In.ent σ (.bsl d (n.getD 1) n (List.replicate k (zeroElem n zs)) qs)) σ (In.upd σ (.bsl d (n.getD 1) n (List.replicate k (zeroElem n zs)) qs)):=by
 refine .of_run (fun p hp=>?_) (fun τ a w F m hag hR=>?_)
 ·obtain rfl:=List.mem_singleton.1 hp; exact List.mem_singleton.2 rfl
 ·obtain ⟨ys,hrun,hy,hul,hu1⟩:=run_bsl ho hT hsz h0 hz hn hm hq hR hag h.1
  have c:=Chg.alloc hR.wf (.cells ys.toArray e) (k * n.getD 1)
  have hR1 : RelF G τ a.tmps (w.alloc (.cells ys.toArray e)) (F.with w.heap.size (k * n.getD 1)) m:=
   ⟨hR.size,hR.nle,fun t ht=>(hR.slots t ht).still c,fun g hg=>(hR.blks g hg).stable c (fun _ _ h=>h) (fun e=>by have:=hR.blks g hg; rw [e] at this; exact this) (fun _ _ _=>id),hR.inj,Cells.with_wf hR.wf _ _,hR.chg.trans c (fun _ h=>h.elim),hR.own,hR.par,hR.nlt,
    hR.ext.step hR.blks c (Cells.with_wf hR.wf _ _) (fun _ hb=>hb.elim) (fun _ _ _ _ h=>h) (fun g b h1 h2 h3=>.inl ⟨g,h1,h2,h3⟩)⟩
  refine ⟨_,_,_,F.with w.heap.size (k * n.getD 1),m,hrun,.inl rfl,?_⟩
  rw [hdst]
  refine hR1.slot hd ?_
  have hyl : ys.length = k * n.getD 1:=by rw [hy.len,flat_len hu1,hul]
  have hof:=Fz.ofCells (w:=w.alloc (.cells ys.toArray e)) (F:=F.with w.heap.size (k * n.getD 1)) (m:=m) (b:=w.heap.size) (off:=0) (cap:=k) h0 (by rw [hul]; exact Nat.le_refl _) hu1
   ((hy.pure (m':=noNames) (D.purL_iff.2 (fun d hd=>by
    obtain ⟨e',he',hd⟩:=List.mem_flatMap.1 hd
    have h1:=D.purL_iff.1 h.2 e' he'
    cases e' with
    | agg cs=>exact D.purL_iff.1 h1 d hd
    | _=>obtain rfl:=List.mem_singleton.1 hd; exact h1))).stable c (fun _ _ h=>h)) (fun j v hj=>by
    have hjl : j < k * n.getD 1:=by rw [← hyl]; exact (List.getElem?_eq_some_iff.1 hj).1
    refine ⟨?_,.inr ⟨rfl,by omega⟩⟩
    rw [Nat.zero_add,World.cell?_alloc_at ys.toArray e w.heap.size j rfl,List.getElem?_toArray]
    exact hj)
  rw [hul] at hof
  exact hof
theorem RelF.made (hR : RelF G τ a.tmps w F m) {g d : Nat} (hf : freeN τ g) (hd : d < G.n) (ob : Obj) {δ e : D} {v : Value} (hb : ∀ m' : Names,(∀ g p,m g = some p → m' g = some p) → m' g = some (some w.heap.size) → Blk (w.alloc ob) F m' g δ)
  (hv : ∀ m' : Names,m' g = some (some w.heap.size) → Fz (w.alloc ob) F m' e v) : ∃ m',RelF G ((τ.set g δ).set d e) (a.tmps.setIfInBounds d v) (w.alloc ob) F m':=by
 have hmg : m g = none:=by have:=hR.blks g hf.1; rw [hf.2] at this; exact this
 have h1:=hR.name hf.1 hf.2 (Chg.alloc0 hR.wf ob) (wf_alloc hR.wf _) (some w.heap.size) (hb _ (fun g' p hp=>by
   rw [if_neg (fun e=>by rw [e,hmg] at hp; cases hp)]
   exact hp) (by simp)) (fun b hb' g' hg' hbl hm=>by
   obtain rfl : w.heap.size = b:=by simpa using hb'
   have:=(hR.blks g' hg').lt hbl hm
   omega) (fun b hb'=>by
   obtain rfl : w.heap.size = b:=by simpa using hb'
   exact .inr hR.chg.size) (hR.nameE hf.1 (Chg.alloc0 hR.wf ob) (wf_alloc hR.wf _) (some w.heap.size) (fun b hb'=>by
   obtain rfl : w.heap.size = b:=by simpa using hb'
   exact Nat.le_refl _))
 exact ⟨_,h1.slot hd (hv _ (by simp))⟩
theorem in_alloc {d g : Nat} {T : TypeId} {zs : List D} (ho : o.op = .alloc T) (hz : zsOf P T = some zs) (hdst : o.dst = some d) (hd : d < G.n) (h : In.ok σ (.alloc d g zs)) : OpOK P G o (In.ent σ (.alloc d g zs)) σ (In.upd σ (.alloc d g zs)):=by
 obtain ⟨i,z,hi,hzz,hzc,_⟩:=zsOf_some hz
 refine .of_run (fun p hp=>?_) (fun τ a w F m hag hR=>?_)
 ·rcases List.mem_cons.1 hp with rfl | hp
  ·exact List.mem_cons_self ..
  ·obtain rfl:=List.mem_singleton.1 hp; exact List.mem_cons_of_mem _ (List.mem_singleton.2 rfl)
 ·have hrun : (execOp a.eval o).run P w = .ok (.value (.pointer (some ⟨w.heap.size,0,none⟩))) (w.alloc (.cells z.cells T)):=by
   simp [execOp,ho,Instr.alloc,zeroValue,typeInfo,hi,hzz,newVar,newRow]
  have hf : freeN τ g:=⟨h.1,by rw [hag g (List.mem_singleton.2 rfl)]; exact h.2⟩
  have c:=Chg.alloc0 hR.wf (.cells z.cells T)
  obtain ⟨m',hR'⟩:=hR.made hf hd (.cells z.cells T) (δ:=.obj zs) (e:=.ref g 0) (fun m' hm hg=>⟨_,_,_,hg,heap_alloc_new w _,(hzc w F m').stable c (fun _ _ h=>h),fun o ho=>by have:=hR.wf _ _ ho; omega⟩) (fun m' hg=>.ref m' g 0 _ hg)
  refine ⟨_,_,_,F,m',hrun,.inl rfl,?_⟩
  rw [hdst]
  exact hR'
theorem in_box {d g : Nat} {T : TypeId} {x : Operand} {X : Opd} {n : Option Nat} (ho : o.op = .box T x) (hx : opd x = some X) (hdst : o.dst = some d) (hd : d < G.n) (h : In.ok σ (.box d g X n)) : OpOK P G o (In.ent σ (.box d g X n)) σ (In.upd σ (.box d g X n)):=by
 refine .of_run (fun p hp=>?_) (fun τ a w F m hag hR=>?_)
 ·rcases List.mem_cons.1 hp with rfl | hp
  ·exact List.mem_cons_self ..
  ·obtain rfl:=List.mem_singleton.1 hp; exact List.mem_cons_of_mem _ (List.mem_singleton.2 rfl)
 ·have hrun : (execOp a.eval o).run P w = .ok (.value (.pointer (some ⟨w.heap.size,0,none⟩))) (w.alloc (.cells (a.eval x).cells T)):=by
   simp [execOp,ho,Instr.box,newVar,newRow]
  have hf : freeN τ g:=⟨h.1.1,by rw [hag g (List.mem_cons_self ..)]; exact h.1.2⟩
  have hc:=asC_val (opd_fz hR hx (fun t ht=>hag t (List.mem_cons_of_mem _ ht))) h.2
  have c:=Chg.alloc0 hR.wf (.cells (a.eval x).cells T)
  obtain ⟨m',hR'⟩:=hR.made hf hd (.cells (a.eval x).cells T) (δ:=.obj (D.asC (X.val σ) n)) (e:=.ref g 0) (fun m' hm hg=>⟨_,_,_,hg,heap_alloc_new w _,hc.stable c hm,fun o ho=>by have:=hR.wf _ _ ho; omega⟩) (fun m' hg=>.ref m' g 0 _ hg)
  refine ⟨_,_,_,F,m',hrun,.inl rfl,?_⟩
  rw [hdst]
  exact hR'
theorem RelF.madeRow (hR : RelF G τ a.tmps w F m) {g d s k cap : Nat} (hf : freeN τ g) (hd : d < G.n) {cur : Array Value} {T : TypeId} {es : List D} (h0 : 0 < s) (hk : es.length = k) (hkc : k ≤ cap) (hsz : cap * s ≤ cur.size) (hl : ∀ (e : D),e ∈ es → e.cells.length = s)
  (hc : CellsOK w F m (D.flat es) (cur.toList.take (es.length * s))) : ∃ m',RelF G ((τ.set g (.row s es)).set d (.own g s k)) (a.tmps.setIfInBounds d (.slice (some ⟨w.heap.size,0,none⟩) k cap)) (w.alloc (.cells cur T)) F m':=by
 have c:=Chg.alloc0 hR.wf (.cells cur T)
 exact hR.made hf hd (.cells cur T) (δ:=.row s es) (e:=.own g s k) (fun m' hm hg=>.inr ⟨_,_,_,hg,heap_alloc_new w _,h0,hl,by rw [hk]; exact Nat.le_trans (Nat.mul_le_mul_right _ hkc) hsz,hc.stable c hm,fun o ho=>by have:=hR.wf _ _ ho; omega⟩)
  (fun m' hg=>.own m' g s k _ cap cur T hg h0 hkc (heap_alloc_new w _) hsz)
theorem in_bslx {d g T e k : Nat} {n : Option Nat} {zs : List D} {ps : Array (Nat × Operand)} {qs : List (Nat × Opd)} (ho : o.op = .buildSlice T k ps) (hT : P.underlying T = some (.slice e)) (hsz : szOf P e = some n) (h0 : 0 < n.getD 1)
  (hz : zsOf P e = some zs) (hn : zs.length = n.getD 1) (hm : k * n.getD 1 ≤ 2 ^ 24) (hq : Elems ps.toList qs) (hdst : o.dst = some d) (hd : d < G.n) (h : In.ok σ (.bslx d g (n.getD 1) n (List.replicate k (zeroElem n zs)) qs)) :
  OpOK P G o (In.ent σ (.bslx d g (n.getD 1) n (List.replicate k (zeroElem n zs)) qs)) σ (In.upd σ (.bslx d g (n.getD 1) n (List.replicate k (zeroElem n zs)) qs)):=by
 refine .of_run (fun p hp=>?_) (fun τ a w F m hag hR=>?_)
 ·rcases List.mem_cons.1 hp with rfl | hp
  ·exact List.mem_cons_self ..
  ·obtain rfl:=List.mem_singleton.1 hp; exact List.mem_cons_of_mem _ (List.mem_singleton.2 rfl)
 ·obtain ⟨ys,hrun,hy,hul,hu1⟩:=run_bsl ho hT hsz h0 hz hn hm hq hR (fun t ht=>hag t (List.mem_cons_of_mem _ ht)) h.2
  have hf : freeN τ g:=⟨h.1.1,by rw [hag g (List.mem_cons_self ..)]; exact h.1.2⟩
  have hyl : ys.length = k * n.getD 1:=by rw [hy.len,flat_len hu1,hul]
  obtain ⟨m',hR'⟩:=hR.madeRow (s:=n.getD 1) (k:=k) (cap:=k) (cur:=ys.toArray) (T:=e) (es:=elemsD σ n qs (List.replicate k (zeroElem n zs))) hf hd h0 hul (Nat.le_refl _) (by rw [List.size_toArray,hyl]; exact Nat.le_refl _) hu1
   (by rw [hul,← hyl]; simpa using hy)
  refine ⟨_,_,_,F,m',hrun,.inl rfl,?_⟩
  rw [hdst]
  simp only [In.upd,List.length_replicate]
  exact hR'
theorem in_mks {d g T e by_ : Nat} {n : Option Nat} {zs : List D} {i : TypeInfo} {x : Operand} {X : Opd} (ho : o.op = .makeSlice T x x) (hT : P.underlying T = some (.slice e)) (hsz : szOf P e = some n) (h0 : 0 < n.getD 1) (hz : zsOf P e = some zs) (hn : zs.length = n.getD 1)
  (hi : P.info? e = some i) (hby : i.bytes = by_) (hx : opd x = some X) (hdst : o.dst = some d) (hd : d < G.n) (h : In.ok σ (.mks d g X (n.getD 1) by_ (zeroElem n zs))) :
  OpOK P G o (In.ent σ (.mks d g X (n.getD 1) by_ (zeroElem n zs))) σ (In.upd σ (.mks d g X (n.getD 1) by_ (zeroElem n zs))):=by
 obtain ⟨hfr,h1,hm0,hmm,hb⟩:=h
 obtain ⟨k,hm⟩:=int_val h1
 refine .of_run (fun p hp=>?_) (fun τ a w F m' hag hR=>?_)
 ·rcases List.mem_cons.1 hp with rfl | hp
  ·exact List.mem_cons_self ..
  ·obtain rfl:=List.mem_singleton.1 hp; exact List.mem_cons_of_mem _ (List.mem_singleton.2 rfl)
 ·simp only [In.upd]
  have hxe:=opd_v hR hx (fun t ht=>hag t (List.mem_cons_of_mem _ ht)) hm
  generalize intD σ X = q at hm0 hmm hb hxe
  obtain ⟨i',z,hi',hzz,hzs,hel,hzc⟩:=zero_cells hz hn
  rw [hi] at hi'
  obtain rfl:=Option.some.inj hi'
  obtain ⟨_,i'',_,hi'',hsi,_⟩:=szOf_some hsz
  rw [hi] at hi''
  obtain rfl:=Option.some.inj hi''
  have hmt : (q.toNat : Int) = q:=by omega
  have hbm : (i.bytes : Int) * q ≤ 281474976710656:=by
   rw [hby,← hmt]
   have : ((by_ * q.toNat : Nat) : Int) ≤ 1099511627776:=by omega
   rw [Int.natCast_mul] at this
   omega
  have hrun : (execOp a.eval o).run P w = .ok (.value (.slice (some ⟨w.heap.size,0,none⟩) q.toNat q.toNat)) (w.alloc (.cells (madeCells z.cells (q.toNat * n.getD 1)) e)):=by
   have:=run_make (P:=P) w T e i z hT hi hzz k k q q hm0 (by omega) hbm (by omega)
   rw [hsi] at this
   simp [execOp,ho,hxe,this]
  have hf : freeN τ g:=⟨hfr.1,by rw [hag g (List.mem_cons_self ..)]; exact hfr.2⟩
  have hlen : ∀ (f : D),f ∈ List.replicate q.toNat (zeroElem n zs) → f.cells.length = n.getD 1:=fun f hf=>by rw [(List.mem_replicate.1 hf).2]; exact hel
  have hmade:=made_cells h0 hzs hel (hzc w F m') q.toNat
  have hms : (madeCells z.cells (q.toNat * n.getD 1)).toList = ((Array.range (q.toNat * n.getD 1)).map (z.cells[· % z.cells.size]!)).toList:=rfl
  rw [← hms] at hmade
  have hml:=hmade.len
  rw [flat_len hlen] at hml
  obtain ⟨m1,hR'⟩:=hR.madeRow (s:=n.getD 1) (k:=q.toNat) (cap:=q.toNat) (cur:=madeCells z.cells (q.toNat * n.getD 1)) (T:=e) (es:=List.replicate q.toNat (zeroElem n zs)) hf hd h0 (by simp) (Nat.le_refl _) (by rw [size_madeCells]; exact Nat.le_refl _) hlen
   (by rw [← hml,List.take_length]; exact hmade)
  refine ⟨_,_,_,F,m1,hrun,.inl rfl,?_⟩
  rw [hdst]
  exact hR'
end
end
section
open Go.RowKit
section
variable {P : Program} {G : Ctx} {o : Oper} {σ τ : Env} {a : Act} {w : World} {F : Cells} {m : Names}
theorem run_sto {T s : Nat} {n : Option Nat} {x : Operand} (ho : o.op = .store T (.tmp s) x) (hsz : szOf P T = some n) {a : Act} {w : World} {b q : Nat} (hx : a.eval (.tmp s) = .pointer (some ⟨b,q,none⟩)) {vs : List Value} (hv : (a.eval x).cells.toList = vs)
  (hl : vs.length = n.getD 1) (h1 : ∀ v ∈ vs,v.oneCell' = true) {cur : Array Value} {U : TypeId} (hb : w.heap[b]? = some (.cells cur U (0,0))) (hle : q + vs.length ≤ cur.size) :
  (execOp a.eval o).run P w = .ok .skip (w.setRow b (cur.toList.take q ++ vs ++ cur.toList.drop (q + vs.length)).toArray):=by
 have:=run_storeVar (P:=P) hsz w b q (a.eval x) vs hv hl h1 cur U hb hle
 simp [execOp,ho,Instr.storeAt,hx,Instr.sureAddr,this]
theorem elemSet_cells {e d : D} {o : Nat} {n : Option Nat} (hok : D.asCok d n) (h0 : 0 < n.getD 1) (hle : o + n.getD 1 ≤ e.cells.length) : (elemSet e o d n).cells = D.setC e.cells o d n:=by
 have single : ∀ e : D,e.cells = [e] → o + n.getD 1 ≤ e.cells.length → elemSet e o d n = d → (elemSet e o d n).cells = D.setC e.cells o d n:=by
  intro e he hle hs
  rw [he,List.length_singleton] at hle
  rw [hs,he,asC_cells hok,setC_all _ _ _ _ hok (by rw [List.length_singleton]; exact hle),D.setAll]
  obtain rfl : o = 0:=by omega
  have : (D.asC d n).length = 1:=by rw [asC_length hok]; omega
  rw [this]
  simp
 cases e with
 | agg cs=>rfl
 | _=>exact single _ rfl hle rfl
theorem setAll_setAll (l : List D) (i k o : Nat) (us : List D) (hk : i + k ≤ l.length) (ho : o + us.length ≤ k) : D.setAll l i (D.setAll ((l.drop i).take k) o us) = D.setAll l (i + o) us:=by
 have hlen : ((l.drop i).take k).length = k:=by rw [List.length_take,List.length_drop]; omega
 have hsl : (D.setAll ((l.drop i).take k) o us).length = k:=by rw [D.setAll,setAll_length _ _ _ (by rw [hlen]; exact ho),hlen]
 apply List.ext_getElem?
 intro j
 rw [D.setAll,setAll_get l _ i (by rw [hsl]; exact hk),hsl,D.setAll,D.setAll,setAll_get l us (i + o) (by omega)]
 by_cases h1 : i ≤ j ∧ j < i + k
 ·rw [if_pos h1,setAll_get _ _ _ (by rw [hlen]; exact ho)]
  by_cases h2 : o ≤ j - i ∧ j - i < o + us.length
  ·rw [if_pos h2,if_pos (by omega)]
   congr 1
   omega
  ·rw [if_neg h2,if_neg (by omega),List.getElem?_take,if_pos (by omega),List.getElem?_drop]
   congr 1
   omega
 ·rw [if_neg h1,if_neg (by omega)]
theorem flat_elem {es : List D} {s : Nat} (hlen : ∀ (e : D),e ∈ es → e.cells.length = s) {i : Nat} (hi : i < es.length) : (es.getD i .any).cells = ((D.flat es).drop (i * s)).take s ∧ (es.getD i .any).cells.length = s ∧ i * s + s ≤ (D.flat es).length:=by
 have hget : es.getD i .any = es[i]:=by simp [List.getD_eq_getElem?_getD,hi]
 have hel:=hlen _ (List.getElem_mem hi)
 have hle : i * s + s ≤ (D.flat es).length:=by
  rw [flat_len hlen]
  have : (i + 1) * s ≤ es.length * s:=Nat.mul_le_mul_right _ hi
  rw [Nat.add_mul] at this
  omega
 rw [hget]
 refine ⟨?_,hel,hle⟩
 apply List.ext_getElem?
 intro j
 rw [List.getElem?_take]
 by_cases hj : j < s
 ·rw [if_pos hj,List.getElem?_drop,flat_get hlen i j hj,List.getElem?_eq_getElem hi]
  rfl
 ·rw [if_neg hj,List.getElem?_eq_none (by omega)]
theorem in_sto {T s : Nat} {n : Option Nat} {x : Operand} {X : Opd} (ho : o.op = .store T (.tmp s) x) (hs : s < nb) (hsz : szOf P T = some n) (h0 : 0 < n.getD 1) (hx : opd x = some X) (hdst : o.dst = none) (h : In.ok σ (.sto s X n)) :
  OpOK P G o (In.ent σ (.sto s X n)) σ (In.upd σ (.sto s X n)):=by
 obtain ⟨hp,hnp,hok,hle⟩:=h
 refine .of_run (fun p hp'=>?_) (fun τ a w F m hag hR=>?_)
 ·simp only [In.upd,stoU] at hp'
  simp only [In.ent,ptrRoot]
  unfold ptrOk at hp
  cases hv : σ s with
  | ref g q=>
   simp only [hv] at hp hp'
   cases hg : σ g with
   | obj cs=>simp only [hg] at hp'; obtain rfl:=List.mem_singleton.1 hp'; exact List.mem_singleton.2 rfl
   | _=>simp only [hg] at hp; exact hp.2.elim
  | eref g st i q=>
   simp only [hv] at hp hp'
   cases hg : σ g with
   | row st' es=>simp only [hg] at hp'; obtain rfl:=List.mem_singleton.1 hp'; exact List.mem_singleton.2 rfl
   | _=>simp only [hg] at hp; exact hp.2.elim
  | ptr cs=>rw [hv] at hnp; exact hnp.elim
  | _=>rw [hv] at hp; exact hp.elim
 ·have hcv:=asC_val (opd_fz hR hx (fun t ht=>hag t (List.mem_cons_of_mem _ (List.mem_append_right _ ht)))) hok
  have hlv:=asC_length hok
  have hag1 : ∀ t,t ∈ s :: ptrRoot σ s → τ t = σ t:=fun t ht=>hag t (by
   rcases List.mem_cons.1 ht with rfl | ht
   ·exact List.mem_cons_self ..
   ·exact List.mem_cons_of_mem _ (List.mem_append_left _ ht))
  have h1:=hR.slots s hs
  rw [hag1 s (List.mem_cons_self ..)] at h1
  have hxa : a.eval (.tmp s) = a.tmps.getD s undef:=rfl
  simp only [In.upd,stoU]
  unfold ptrOk at hp
  unfold ptrC ptrO at hle
  unfold ptrRoot at hag1
  generalize hy : a.tmps.getD s undef = y at h1
  rw [hy] at hxa
  rw [hdst]
  cases hv : σ s with
  | ref g q=>
   rw [hv] at hp hle h1 hag1
   obtain ⟨hg,hp⟩:=hp
   have hgσ:=hag1 g (List.mem_cons_of_mem _ (List.mem_singleton.2 rfl))
   have h2:=hR.blks g hg
   rw [hgσ] at h2
   cases hgv : σ g with
   | obj cs=>
    rw [hgv] at h2
    simp only [hgv] at hle
    obtain ⟨b,cur,U,hmg,hb,hc,hF⟩:=h2
    cases h1 with
    | ref _ _ _ b' hb'=>
     obtain rfl : b = b':=by rw [hmg] at hb'; simpa using hb'
     have hsz2 : q + (a.eval x).cells.toList.length ≤ cur.size:=by rw [hcv.len,hlv]; have:=hc.len; simp at this; omega
     have hrun:=run_sto ho hsz hxa rfl (by rw [hcv.len,hlv]) hcv.one hb hsz2
     have hset:=hc.setAll hcv q (by rw [hlv]; exact hle)
     rw [← setC_all _ _ _ _ hok hle] at hset
     generalize hnw : cur.toList.take q ++ (a.eval x).cells.toList ++ cur.toList.drop (q + (a.eval x).cells.toList.length) = new at hrun hset
     have hnsz : new.toArray.size = cur.size:=by rw [← hnw,List.size_toArray,setAll_length _ _ _ (by simpa using hsz2)]; simp
     have c:=Chg.setRow0 (F:=F) b cur new.toArray U hb hnsz hF
     have hlt:=(Array.getElem?_eq_some_iff.1 hb).1
     refine ⟨_,undef,_,F,m,hrun,.inr ⟨rfl,rfl⟩,?_⟩
     simp only [hgv]
     refine hR.turn (δ:=.obj (D.setC cs q (X.val σ) n)) hg (by rw [hgσ,hgv]; rfl) (c.mono (fun k hk=>by rw [hk]; exact hmg)) (fun c q hq=>by rw [setRow_size]; exact hR.wf c q hq) ⟨b,_,U,hmg,setRow_heap w b cur new.toArray U (0,0) hb,?_,hF⟩ (by intro h; cases h)
     simpa using hset.stable c (fun _ _ h=>h)
   | _=>rw [hgv] at hp; exact hp.elim
  | eref g st i q=>
   rw [hv] at hp hle h1 hag1
   obtain ⟨hg,hp⟩:=hp
   have hgσ:=hag1 g (List.mem_cons_of_mem _ (List.mem_singleton.2 rfl))
   have h2:=hR.blks g hg
   rw [hgσ] at h2
   cases hgv : σ g with
   | row st' es=>
    rw [hgv] at h2 hp
    simp only [hgv] at hle
    obtain ⟨rfl,hi⟩:=hp
    rcases h2 with ⟨rfl,_⟩ | ⟨b,cur,U,hmg,hb,hs0,hel,hsz',hc,hF⟩
    ·simp at hi
    ·cases h1 with
     | eref _ _ _ _ _ b' hb'=>
      obtain rfl : b = b':=by rw [hmg] at hb'; simpa using hb'
      obtain ⟨he1,he2,he3⟩:=flat_elem hel hi
      have hfl:=flat_len hel
      have hsz2 : i * st' + q + (a.eval x).cells.toList.length ≤ cur.size:=by rw [hcv.len,hlv]; omega
      have hrun:=run_sto ho hsz hxa rfl (by rw [hcv.len,hlv]) hcv.one hb hsz2
      have hec:=elemSet_cells hok h0 hle
      have hlc : (elemSet (es.getD i .any) q (X.val σ) n).cells.length = st':=by rw [hec,setC_length _ _ _ _ hok hle,he2]
      have hset:=hc.setAll hcv (i * st' + q) (by rw [hlv]; omega)
      have hD : D.setAll (D.flat es) (i * st' + q) (D.asC (X.val σ) n) = D.flat (es.set i (elemSet (es.getD i .any) q (X.val σ) n)):=by
       rw [flat_set hel hi hlc,hec,setC_all _ _ _ _ hok hle,he1,setAll_setAll _ _ _ _ _ he3 (by rw [hlv]; omega)]
      rw [hD] at hset
      have hnl : ∀ (e : D),e ∈ es.set i (elemSet (es.getD i .any) q (X.val σ) n) → e.cells.length = st':=fun e he=>by
       rcases List.mem_or_eq_of_mem_set he with he | rfl
       ·exact hel e he
       ·exact hlc
      have hnew : cur.toList.take (i * st' + q) ++ (a.eval x).cells.toList ++ cur.toList.drop (i * st' + q + (a.eval x).cells.toList.length) = cur.toList.take (i * st' + q) ++ (a.eval x).cells.toList ++ cur.toList.drop (i * st' + q + (a.eval x).cells.toList.length):=rfl
      generalize hnw : cur.toList.take (i * st' + q) ++ (a.eval x).cells.toList ++ cur.toList.drop (i * st' + q + (a.eval x).cells.toList.length) = new at hrun hnew
      have hnsz : new.toArray.size = cur.size:=by rw [← hnw,List.size_toArray,setAll_length _ _ _ (by simpa using hsz2)]; simp
      have c:=Chg.setRow0 (F:=F) b cur new.toArray U hb hnsz hF
      have htake : new.take (es.length * st') = (cur.toList.take (es.length * st')).take (i * st' + q) ++ (a.eval x).cells.toList ++ (cur.toList.take (es.length * st')).drop (i * st' + q + (a.eval x).cells.toList.length):=by
       have hcl : (cur.toList.take (es.length * st')).length = es.length * st':=by rw [hc.len,hfl]
       apply List.ext_getElem?
       intro j
       rw [List.getElem?_take,setAll_get _ _ _ (by rw [hcl,hcv.len,hlv]; omega),← hnw,setAll_get _ _ _ (by simpa using hsz2),List.getElem?_take]
       by_cases hj : j < es.length * st'
       ·rw [if_pos hj,if_pos hj]
       ·rw [if_neg hj,if_neg (by rw [hcv.len,hlv]; omega),if_neg hj]
      refine ⟨_,undef,_,F,m,hrun,.inr ⟨rfl,rfl⟩,?_⟩
      simp only [hgv]
      refine hR.turn (δ:=.row st' (es.set i (elemSet (es.getD i .any) q (X.val σ) n))) hg (by rw [hgσ,hgv]; rfl) (c.mono (fun k hk=>by rw [hk]; exact hmg)) (fun c q hq=>by rw [setRow_size]; exact hR.wf c q hq) (.inr ⟨b,_,U,hmg,setRow_heap w b cur new.toArray U (0,0) hb,hs0,hnl,?_,?_,hF⟩) (by intro h; cases h)
      ·rw [List.length_set,hnsz]; exact hsz'
      ·rw [List.length_set]
       have:=hset.stable c (fun _ _ h=>h)
       rw [← htake] at this
       simpa using this
   | _=>rw [hgv] at hp; exact hp.elim
  | ptr cs=>rw [hv] at hnp; exact hnp.elim
  | _=>rw [hv] at hp; exact hp.elim
theorem RelF.drew (hR : RelF G τ a.tmps w F m) : RelF G τ a.tmps w.drew F m:=by
 have c : Chg w F noBlocks w.drew F:=(Chg.refl w F noBlocks).drew
 exact ⟨hR.size,hR.nle,fun t ht=>(hR.slots t ht).still c,fun g hg=>(hR.blks g hg).stable c (fun _ _ h=>h) (fun e=>by have:=hR.blks g hg; rw [e] at this; exact this) (fun _ _ _=>id),hR.inj,hR.wf,hR.chg.drew,hR.own,hR.par,hR.nlt,
  hR.ext.step hR.blks c hR.wf (fun _ hb=>hb.elim) (fun _ _ _ _ h=>h) (fun g b h1 h2 h3=>.inl ⟨g,h1,h2,h3⟩)⟩
theorem seq_val (hR : RelF G τ a.tmps w F m) {st : Nat} {d : D} {y : Value} (hf : Fz w F m d y) (hok : seqOk σ st d) (hag : ∀ t,t ∈ seqRoot d → τ t = σ t) :
  ∃ q c vs,y = .slice q (lenD d) c ∧ lenD d ≤ c ∧ (seqD σ d).length = lenD d ∧ (∀ (e : D),e ∈ seqD σ d → e.cells.length = st) ∧ CellsOK w F m (D.flat (seqD σ d)) vs ∧ (∀ ad,q = some ad → ∀ j v,vs[j]? = some v → w.cell? (ad.add j) = some v) ∧ (q = none → lenD d = 0):=by
 have empty : ∀ (d : D) (q : Option Addr) (c : Nat),seqD σ d = [] → lenD d = 0 → y = .slice q 0 c → ∃ q c vs,y = .slice q (lenD d) c ∧ lenD d ≤ c ∧ (seqD σ d).length = lenD d ∧ (∀ (e : D),e ∈ seqD σ d → e.cells.length = st) ∧ CellsOK w F m (D.flat (seqD σ d)) vs ∧
   (∀ ad,q = some ad → ∀ j v,vs[j]? = some v → w.cell? (ad.add j) = some v) ∧ (q = none → lenD d = 0):=by
  intro d q c h1 h2 hy
  refine ⟨q,c,[],by rw [h2]; exact hy,by omega,by rw [h1,h2]; rfl,(fun e he=>by rw [h1] at he; cases he),by rw [h1]; exact .nil,(fun ad _ j v hj=>by simp at hj),fun _=>h2⟩
 cases hf with
 | sl0 _ s q c=>exact empty _ q c rfl rfl rfl
 | sl _ s es b off cap u hs hle hlen hu hr=>
  rcases (Fz.sl m s es b off cap u hs hle hlen hu hr : Fz w F m _ _).slCells with ⟨rfl,_⟩ | ⟨b',off',cap',us,he,_,_,hl,hc,huc⟩
  ·exact empty _ _ _ rfl rfl rfl
  ·obtain ⟨⟨rfl,rfl⟩,rfl⟩ : (b = b' ∧ off = off') ∧ cap = cap':=by simpa using he
   rcases hok with rfl | rfl
   ·exact ⟨_,cap,us,rfl,hle,rfl,hl,hc.names none_le,(fun ad had j v hj=>by
     obtain rfl : (⟨b,off,none⟩ : Addr) = ad:=by simpa using had
     rw [Addr.add_lit]
     exact (huc j v hj).1),fun h=>by cases h⟩
   ·exact empty _ _ _ rfl rfl rfl
 | nul _ q=>exact empty _ q 0 rfl rfl rfl
 | own _ g s n b cap cur T hg hs hle hb hcap=>
  obtain ⟨hgn,rfl,hok⟩:=hok
  have h2:=hR.blks g hgn
  rw [hag g (List.mem_singleton.2 rfl)] at h2
  cases hgv : σ g with
  | row s' es=>
   rw [hgv] at h2 hok
   obtain ⟨rfl,hn⟩:=hok
   have hD : seqD σ (.own g s' n) = es.take n:=by simp [seqD,hgv]
   rw [hD]
   rcases h2 with ⟨rfl,h2⟩ | ⟨b',cur',U,hmg,hb',_,hel,hsz,hc,_⟩
   ·rw [hg] at h2; cases h2
   ·obtain rfl : b = b':=by rw [hg] at hmg; simpa using hmg
    have hpart:=part_cells hs hel hc 0 n (Nat.zero_le _) hn
    simp only [Nat.zero_mul,List.drop_zero,Nat.sub_zero] at hpart
    refine ⟨_,cap,_,rfl,hle,by rw [hpart.2.1]; rfl,hpart.1,hpart.2.2,(fun ad had j v hj=>?_),fun h=>by cases h⟩
    obtain rfl : (⟨b,0,none⟩ : Addr) = ad:=by simpa using had
    rw [Addr.add_lit,Nat.zero_add,cell_of_row w b j cur' U (0,0) hb',← Array.getElem?_toList]
    rw [List.getElem?_take] at hj
    split at hj
    ·rw [List.getElem?_take] at hj
     split at hj
     ·exact hj
     ·cases hj
    ·cases hj
  | _=>rw [hgv] at hok; exact hok.elim
 | own0 _ g s q hg=>
  have hD : seqD σ (.own g s 0) = []:=by simp only [seqD]; split <;> simp
  exact empty _ q 0 hD rfl rfl
 | _=>exact hok.elim
theorem run_append_in {T ty e : TypeId} {i : TypeInfo} (ht : P.underlying T = some (.slice e)) (hi : P.info? e = some i) {w : World} {g n cap : Nat} {cur : Array Value} {U : TypeId} (hg : w.heap[g]? = some (.cells cur U (0,0)))
  {ad : Addr} {m c : Nat} {news : List Value} (hl : news.length = m * i.size) (hnews : ∀ j u,news[j]? = some u → w.cell? (ad.add j) = some u) (h1 : ∀ u ∈ news,u.oneCell' = true) (hroom : n + m ≤ cap) (hfit : n * i.size + news.length ≤ cur.size) :
  (Builtin.append_ #[T,T] ty #[.slice (some ⟨g,0,none⟩) n cap,.slice (some ad) m c]).run P w =
   .ok (.slice (some ⟨g,0,none⟩) (n + m) cap) (w.setRow g (cur.toList.take (n * i.size) ++ news ++ cur.toList.drop (n * i.size + news.length)).toArray):=by
 have hf:=run_firstCells_some (P:=P) w i.size m ad m c news hl hnews
 have hst:=run_storeCells_at P g (n * i.size) U news 0 cur w hg (by simpa using hfit) h1
 simp only [Nat.add_zero] at hst
 simp [Builtin.append_,run_underlying ht,sizeOf,typeInfo,hi,Builtin.lenOf,hroom,hf,Addr.add_lit,hst]
theorem run_append_no {T ty e : TypeId} {i : TypeInfo} (ht : P.underlying T = some (.slice e)) (hi : P.info? e = some i) {w : World} {q q' : Option Addr} {n cap c : Nat} (hn : n ≤ cap) :
  (Builtin.append_ #[T,T] ty #[.slice q n cap,.slice q' 0 c]).run P w = .ok (.slice q n cap) w:=by
 have hf : ∀ w : World,(Builtin.firstCells i.size 0 (.slice q' 0 c)).run P w = .ok #[] w:=by
  intro w
  cases q' with
  | none=>simp [Builtin.firstCells]
  | some b=>simpa using run_firstCells_some (P:=P) w i.size 0 b 0 c [] (by simp) (by simp)
 cases q <;> simp [Builtin.append_,run_underlying ht,sizeOf,typeInfo,hi,Builtin.lenOf,hn,hf,storeCells]
theorem run_append_new {T ty e : TypeId} {i : TypeInfo} {z : Value} (ht : P.underlying T = some (.slice e)) (hi : P.info? e = some i) (hz : i.zero = some z) {w : World} {q : Option Addr} {ad : Addr} {n cap k c : Nat} {olds news : List Value}
  (hlo : olds.length = n * i.size) (holds : ∀ b,q = some b → ∀ j v,olds[j]? = some v → w.cell? (b.add j) = some v) (hq : q = none → n = 0 ∧ cap = 0) (hl : news.length = k * i.size) (hnews : ∀ j v,news[j]? = some v → w.cell? (ad.add j) = some v)
  (h0 : 0 < k) (hg : cap < n + k) (hnc : n ≤ cap) (h1 : n + k ≤ 1099511627776) (h2 : (n + k) * i.bytes ≤ 1099511627776) :
  ∃ cap',n + k ≤ cap' ∧ (Builtin.append_ #[T,T] ty #[.slice q n cap,.slice (some ad) k c]).run P w = .ok (.slice (some ⟨w.heap.size,0,none⟩) (n + k) cap') (w.drew.alloc (.cells ((olds ++ news).toArray ++ Builtin.zeroCells z.cells (cap' - (n + k))) e)):=by
 cases q with
 | none=>
  obtain ⟨rfl,rfl⟩:=hq rfl
  obtain rfl : olds = []:=List.eq_nil_of_length_eq_zero (by simpa using hlo)
  have hrun:=run_append_nil (P:=P) w T ty e i z ht hi hz ad k c news hl hnews h0 (by omega) (by simp at h2; omega)
  refine ⟨grownCap w k 0 e,by simpa using grownCap_ge w k 0 e,?_⟩
  simpa using hrun
 | some b=>
  have hfits : Builtin.nextslicecap (n + k) cap * i.bytes ≤ 281474976710656:=growslice_fits (by omega) (by omega)
  have hrun:=run_append_grow (P:=P) w T ty e i z ht hi hz b n cap olds hlo (holds b rfl) ad k c news hl hnews hg (by omega) hfits
  exact ⟨grownCap w (n + k) cap e,grownCap_ge w _ _ e,by rw [hrun]; simp⟩
theorem RelF.rename (hR : RelF G τ a.tmps w F m) {h g d : Nat} {δ e : D} {v : Value} (hh : nb ≤ h) (hbl : (τ h).isBlk = true) (hf : freeN τ g) (hd : d < G.n) {w' : World} (c : Chg w F (fun b=>m h = some (some b)) w' F) (wf : ∀ b o,F b o → b < w'.heap.size)
  (hb : ∀ m' : Names,(∀ g p,m g = some p → m' g = some p) → m' g = m h → Blk w' F m' g δ) (hv : ∀ m' : Names,m' g = m h → Fz w' F m' e v) (hmh : m h ≠ none) :
  ∃ m',RelF G (((τ.set h .any).set g δ).set d e) (a.tmps.setIfInBounds d v) w' F m':=by
 have hf1 : nb ≤ g:=hf.1
 have h1:=hR.turn (δ:=.any) hh hbl c wf (by trivial) (by intro h; cases h)
 have hgh : g ≠ h:=fun e=>by rw [e] at hf; rw [hf.2] at hbl; cases hbl
 have hmg : m g = none:=by have:=hR.blks g hf.1; rw [hf.2] at this; exact this
 cases hm : m h with
 | none=>exact absurd hm hmh
 | some p=>
  have h2:=h1.name (g:=g) (δ:=δ) hf.1 (by rw [Env.set_ne _ _ _ _ hgh]; exact hf.2) (Chg.refl w' F noBlocks) wf p (hb _ (fun g' q hq=>by
    rw [if_neg (fun e=>by rw [e,hmg] at hq; cases hq)]
    exact hq) (by simp [hm])) (fun b hpb g' hg' hb' hm'=>by
    by_cases e' : g' = h
    ·subst e'; rw [Env.set_same] at hb'; cases hb'
    ·rw [Env.set_ne _ _ _ _ e'] at hb'
     exact e' (hR.inj g' h b hg' hh hb' hbl hm' (by rw [hm,hpb]))) (fun b hpb=>by
    have:=hR.own h b hh hbl (by rw [hm,hpb])
    exact this) (hR.ext.step hR.blks c wf (fun b hb'=>⟨h,hh,hbl,hb'⟩) (fun l L e k he=>by
    rw [Env.set_ne _ _ _ _ (by show ¬ 999999 = g; have : 1000000 ≤ g:=hf.1; omega),Env.set_ne _ _ _ _ (by show ¬ 999999 = h; have : 1000000 ≤ h:=hh; omega)] at he; exact he) (fun g' b hg' hb' hm'=>by
    by_cases e' : g' = g
    ·subst e'
     rw [if_pos rfl] at hm'
     exact .inl ⟨h,hh,hbl,by rw [hm]; exact hm'⟩
    ·rw [if_neg e'] at hm'
     rw [Env.set_ne _ _ _ _ e'] at hb'
     by_cases e2 : g' = h
     ·subst e2; rw [Env.set_same] at hb'; cases hb'
     ·rw [Env.set_ne _ _ _ _ e2] at hb'; exact .inl ⟨g',hg',hb',hm'⟩))
  exact ⟨_,h2.slot hd (hv _ (by simp [hm]))⟩
theorem in_app {d g T e st by_ : Nat} {sz : Option Nat} {zs : List D} {i : TypeInfo} {x y : Operand} {X Y : Opd} (ho : o.op = .call { callee:=.builtin .append,args:=#[x,y],argTypes:=#[T,T] }) (hT : P.underlying T = some (.slice e)) (hsz : szOf P e = some sz)
  (hnn : sz.getD 1 = st) (h0 : 0 < st) (hz : zsOf P e = some zs) (hzn : zs.length = sz.getD 1) (hi : P.info? e = some i) (hby : i.bytes = by_) (hx : opd x = some X) (hy : opd y = some Y) (hdst : o.dst = some d) (hd : d < G.n)
  (h : In.ok σ (.app d g X Y st by_)) : OpOK P G o (In.ent σ (.app d g X Y st by_)) σ (In.upd σ (.app d g X Y st by_)):=by
 obtain ⟨hfr,hsl,hxo,hyo,hbytes,hlen⟩:=h
 obtain ⟨_,i',_,hi',hs',_⟩:=szOf_some hsz
 rw [hi] at hi'
 obtain rfl:=Option.some.inj hi'
 rw [hnn] at hs'
 obtain ⟨iz,z,hiz,hzz,hzs,_,hzc⟩:=zero_cells hz hzn
 rw [hi] at hiz
 obtain rfl:=Option.some.inj hiz
 rw [hnn] at hzs
 have hrun : ∀ (a' : Act) (w w' : World) (v : Value),(Builtin.append_ #[T,T] o.type #[a'.eval x,a'.eval y]).run P w = .ok v w' → (execOp a'.eval o).run P w = .ok (.value v) w':=by
  intro a' w w' v hr
  simp [execOp,ho,resolve,invoke,builtin,hr]
 refine .of_run (fun p hp=>?_) (fun τ a w F m hag hR=>?_)
 ·simp only [In.upd] at hp
  simp only [In.ent]
  cases hv : X.val σ with
  | own h s n=>
   rw [hv] at hp
   simp only [List.mem_cons,List.not_mem_nil,or_false] at hp
   rcases hp with rfl | rfl | rfl <;> simp [seqRoot]
  | _=>
   rw [hv] at hp
   simp only [List.mem_cons,List.not_mem_nil,or_false] at hp
   rcases hp with rfl | rfl <;> simp
 ·simp only [In.ent] at hag
  have hgf : freeN τ g:=⟨hfr.1,by rw [hag g (List.mem_cons_self ..)]; exact hfr.2⟩
  have hxf:=opd_fz hR hx (fun t ht=>hag t (List.mem_cons_of_mem _ (List.mem_append_left _ (List.mem_append_left _ (List.mem_append_left _ ht)))))
  have hyf:=opd_fz hR hy (fun t ht=>hag t (List.mem_cons_of_mem _ (List.mem_append_left _ (List.mem_append_left _ (List.mem_append_right _ ht)))))
  have hxr : ∀ t,t ∈ seqRoot (X.val σ) → τ t = σ t:=fun t ht=>hag t (List.mem_cons_of_mem _ (List.mem_append_left _ (List.mem_append_right _ ht)))
  obtain ⟨q',c,vs,hye,_,hyl,hyc,hvs,hvc,hyn⟩:=seq_val hR hyf hyo (fun t ht=>hag t (List.mem_cons_of_mem _ (List.mem_append_right _ ht)))
  obtain ⟨q,cap,us,hxe,hxcap,hxl,hxc,hus,huc,hxn⟩:=seq_val hR hxf hxo hxr
  simp only [In.upd]
  generalize hfs : seqD σ (Y.val σ) = fs at hyl hyc hvs
  generalize hk : lenD (Y.val σ) = k at hye hyl hyn hbytes hlen
  have hvl : vs.length = k * i.size:=by rw [hvs.len,flat_len hyc,hyl,hs']
  rw [hdst]
  -- the appended cells,in a new row
  have fresh : ∀ (es : List D) (us : List Value) (n cap' : Nat) (τ' : Env),es.length = n → (∀ (e : D),e ∈ es → e.cells.length = st) → CellsOK w F m (D.flat es) us → n + k ≤ cap' → RelF G τ' a.tmps w F m → freeN τ' g →
    ∃ m',RelF G ((τ'.set g (.row st (es ++ fs))).set d (.own g st (n + k))) (a.tmps.setIfInBounds d (.slice (some ⟨w.drew.heap.size,0,none⟩) (n + k) cap')) (w.drew.alloc (.cells ((us ++ vs).toArray ++ Builtin.zeroCells z.cells (cap' - (n + k))) e)) F m':=by
   intro es us n cap' τ' hel hec hus hcap' hR' hf'
   have hall : ∀ (e : D),e ∈ es ++ fs → e.cells.length = st:=fun e he=>(List.mem_append.1 he).elim (hec e) (hyc e)
   have hc:=hus.append hvs
   rw [← flat_append] at hc
   have hcl : (us ++ vs).length = (n + k) * st:=by rw [hc.len,flat_len hall,List.length_append,hel,hyl]
   refine hR'.drew.madeRow (s:=st) (k:=n + k) (cap:=cap') (es:=es ++ fs) hf' hd h0 (by rw [List.length_append,hel,hyl]) hcap' ?_ hall ?_
   ·rw [Array.size_append,List.size_toArray,hcl,size_zeroCells,hzs,← Nat.add_mul]
    exact Nat.mul_le_mul_right _ (by omega)
   ·have : ((us ++ vs).toArray ++ Builtin.zeroCells z.cells (cap' - (n + k))).toList.take ((es ++ fs).length * st) = us ++ vs:=by
     rw [List.length_append,hel,hyl,← hcl,Array.toList_append]
     exact List.take_left' rfl
    rw [this]
    exact hc.stable ((Chg.refl w F noBlocks).drew) (fun _ _ h=>h)
  by_cases hk0 : k = 0
  ·-- nothing is appended
   obtain rfl:=hk0
   obtain rfl : fs = []:=List.eq_nil_of_length_eq_zero hyl
   have hr:=hrun a w w (.slice q (lenD (X.val σ)) cap) (by rw [hxe,hye]; exact run_append_no hT hi hxcap)
   cases hv : X.val σ with
   | nul=>
    rw [hv] at hxf hxe hr
    have hxe' : a.eval x = .slice q 0 cap:=hxe
    rw [hxe'] at hxf
    have h1:=hR.name (g:=g) (δ:=.row st []) hgf.1 hgf.2 (Chg.refl w F noBlocks) hR.wf none (.inl ⟨rfl,by simp⟩) (fun b h=>by cases h) (fun b h=>by cases h) (hR.nameE hgf.1 (Chg.refl w F noBlocks) hR.wf none (fun b h=>by cases h))
    cases hxf with
    | nul _ _=>exact ⟨_,_,w,F,_,hr,.inl rfl,h1.slot hd (.own0 _ g st q (by simp))⟩
   | own h s n=>
    rw [hv] at hxf hxe hr hxo hxr
    obtain ⟨hh,rfl,hxo⟩:=hxo
    have hhσ:=hxr h (List.mem_singleton.2 rfl)
    have hblk:=hR.blks h hh
    rw [hhσ] at hblk
    cases hhv : σ h with
    | row s' es=>
     rw [hhv] at hxo hblk
     obtain ⟨rfl,hn⟩:=hxo
     have hD : seqD σ (.own h s' n) = es.take n:=by simp [seqD,hhv]
     rw [hD,List.append_nil]
     rw [hv,hD] at hxl hxc
     have hxe' : a.eval x = .slice q n cap:=hxe
     rw [hxe'] at hxf
     have hmh : m h ≠ none:=by rcases hblk with ⟨_,h⟩ | ⟨_,_,_,h,_⟩ <;> rw [h] <;> intro h <;> cases h
     obtain ⟨m',hR'⟩:=hR.rename (g:=g) (d:=d) (δ:=.row s' (es.take n)) (e:=.own g s' (n + 0)) (v:=.slice q n cap) hh (by rw [hhσ,hhv]; rfl) hgf hd (Chg.refl w F _) hR.wf (fun m' hm hg=>by
       rcases hblk with ⟨rfl,h2⟩ | ⟨b,cur,U,hmh',hb,hs0,hel,hsz',hc,hF⟩
       ·exact .inl ⟨by simp,by rw [hg]; exact h2⟩
       ·have hp:=part_cells hs0 hel hc 0 n (Nat.zero_le _) hn
        simp only [Nat.zero_mul,List.drop_zero,Nat.sub_zero] at hp
        refine .inr ⟨b,cur,U,by rw [hg]; exact hmh',hb,hs0,hp.1,by rw [hp.2.1]; exact Nat.le_trans (Nat.mul_le_mul_right _ hn) hsz',?_,hF⟩
        rw [hp.2.1]
        have:=hp.2.2.names hm
        rwa [List.take_take,Nat.min_eq_left (Nat.mul_le_mul_right _ hn)] at this) (fun m' hg=>by
       cases hxf with
       | own _ _ _ _ b cap cur U hm' hs0 hle hb hcap=>exact .own m' g s' n b cap cur U (by rw [hg]; exact hm') hs0 hle hb hcap
       | own0 _ _ _ _ hm'=>exact .own0 m' g s' q (by rw [hg]; exact hm')) hmh
     exact ⟨_,_,w,F,m',hr,.inl rfl,hR'⟩
    | _=>rw [hhv] at hxo; exact hxo.elim
   | sl=>rw [hv] at hsl; exact hsl.elim
   | _=>rw [hv] at hxo; exact hxo.elim
  ·have hkp : 0 < k:=by omega
   obtain ⟨ad,rfl⟩ : ∃ ad,q' = some ad:=by
    cases q' with
    | none=>exact absurd (hyn rfl) hk0
    | some ad=>exact ⟨ad,rfl⟩
   have hvc:=hvc ad rfl
   have hul : us.length = lenD (X.val σ) * i.size:=by rw [hus.len,flat_len hxc,hxl,hs']
   have hgrow : cap < lenD (X.val σ) + k → (q = none → lenD (X.val σ) = 0 ∧ cap = 0) → ∃ cap',lenD (X.val σ) + k ≤ cap' ∧ (execOp a.eval o).run P w = .ok (.value (.slice (some ⟨w.drew.heap.size,0,none⟩) (lenD (X.val σ) + k) cap')) (w.drew.alloc (.cells ((us ++ vs).toArray ++ Builtin.zeroCells z.cells (cap' - (lenD (X.val σ) + k))) e)):=by
    intro hcap hq
    obtain ⟨cap',h1,h2⟩:=run_append_new (ty:=o.type) hT hi hzz (q:=q) (ad:=ad) (n:=lenD (X.val σ)) (cap:=cap) (k:=k) (c:=c) hul huc hq hvl hvc hkp hcap hxcap (by omega) (by rw [hby]; omega)
    exact ⟨cap',h1,hrun a w _ _ (by rw [hxe,hye]; exact h2)⟩
   cases hv : X.val σ with
   | nul=>
    rw [hv] at hxf hxe hgrow hxl hus
    have hxe' : a.eval x = .slice q 0 cap:=hxe
    rw [hxe'] at hxf
    have hus' : CellsOK w F m (D.flat []) us:=hus
    cases hxf with
    | nul _ _=>
     obtain ⟨cap',h1,h2⟩:=hgrow (by simp only [lenD]; omega) (fun _=>⟨rfl,rfl⟩)
     obtain ⟨m',hR'⟩:=fresh [] us 0 cap' τ rfl (fun e he=>by cases he) hus' (by simpa [lenD] using h1) hR hgf
     simp only [List.nil_append,Nat.zero_add] at hR'
     simp only [lenD,Nat.zero_add] at h2
     exact ⟨_,_,_,F,m',h2,.inl rfl,hR'⟩
   | own h s n=>
    rw [hv] at hxf hxe hxo hxr hgrow hxl hxc hus hul
    obtain ⟨hh,rfl,hxo⟩:=hxo
    have hhσ:=hxr h (List.mem_singleton.2 rfl)
    have hblk:=hR.blks h hh
    rw [hhσ] at hblk
    cases hhv : σ h with
    | row s' es=>
     rw [hhv] at hxo hblk
     obtain ⟨rfl,hn⟩:=hxo
     have hD : seqD σ (.own h s' n) = es.take n:=by simp [seqD,hhv]
     rw [hD]
     rw [hD] at hxl hxc hus
     have hxe' : a.eval x = .slice q n cap:=hxe
     rw [hxe'] at hxf
     have hbl : (τ h).isBlk = true:=by rw [hhσ,hhv]; rfl
     have hgh : g ≠ h:=fun e=>by rw [e] at hgf; rw [hgf.2] at hbl; cases hbl
     have kill : RelF G (τ.set h .any) a.tmps w F m:=hR.turn (δ:=.any) hh hbl (Chg.refl w F _) hR.wf (by trivial) (by intro h; cases h)
     have hgf' : freeN (τ.set h .any) g:=⟨hgf.1,by rw [Env.set_ne _ _ _ _ hgh]; exact hgf.2⟩
     have grown : cap < n + k → (q = none → n = 0 ∧ cap = 0) → ∃ n_1 v w' F' m',(execOp a.eval o).run P w = .ok n_1 w' ∧ (n_1 = .value v ∨ (n_1 = .skip ∧ v = undef)) ∧ RelF G (((τ.set h .any).set g (.row s' (es.take n ++ fs))).set d (.own g s' (n + k))) (a.put (some d) v).tmps w' F' m':=by
      intro hcap hq
      obtain ⟨cap',h1,h2⟩:=hgrow hcap hq
      obtain ⟨m',hR'⟩:=fresh (es.take n) us n cap' _ hxl hxc hus h1 kill hgf'
      exact ⟨_,_,_,F,m',h2,.inl rfl,hR'⟩
     cases hxf with
     | own0 _ _ _ _ hm'=>exact grown (by omega) (fun _=>⟨rfl,rfl⟩)
     | own _ _ _ _ b cap cur U hm' hs0 hle hb hcap=>
      by_cases hroom : n + k ≤ cap
      ·rcases hblk with ⟨_,h2⟩ | ⟨b',cur',U',hmh',hb',_,hel,hsz',hc,hF⟩
       ·rw [hm'] at h2; cases h2
       ·obtain rfl : b = b':=by rw [hm'] at hmh'; simpa using hmh'
        rw [hb] at hb'
        obtain ⟨rfl,rfl⟩ : cur = cur' ∧ U = U':=by simpa using hb'
        have hfit : n * i.size + vs.length ≤ cur.size:=by
         rw [hvl,← Nat.add_mul,hs']
         exact Nat.le_trans (Nat.mul_le_mul_right _ hroom) hcap
        have hr:=hrun a w _ _ (by rw [hxe',hye]; exact run_append_in (P:=P) (ty:=o.type) hT hi (w:=w) (n:=n) (cap:=cap) hb (ad:=ad) (m:=k) (c:=c) hvl hvc hvs.one hroom hfit)
        generalize hnw : cur.toList.take (n * i.size) ++ vs ++ cur.toList.drop (n * i.size + vs.length) = new at hr
        have hnsz : new.toArray.size = cur.size:=by rw [← hnw,List.size_toArray,setAll_length _ _ _ (by simpa using hfit)]; simp
        have cc:=Chg.setRow0 (F:=F) b cur new.toArray U hb hnsz hF
        have hall : ∀ (e : D),e ∈ es.take n ++ fs → e.cells.length = s':=fun e he=>(List.mem_append.1 he).elim (hxc e) (hyc e)
        have hxl' : (es.take n).length = n:=hxl
        have hp:=part_cells hs0 hel hc 0 n (Nat.zero_le _) hn
        simp only [Nat.zero_mul,List.drop_zero,Nat.sub_zero] at hp
        have hcells:=hp.2.2.append hvs
        rw [← flat_append,List.take_take,Nat.min_eq_left (Nat.mul_le_mul_right _ hn)] at hcells
        have htake : new.take ((es.take n ++ fs).length * s') = cur.toList.take (n * s') ++ vs:=by
         have hl1 : (cur.toList.take (n * s')).length = n * s':=by rw [List.length_take]; simp; rw [hs'] at hfit; omega
         rw [← hnw,hs',List.length_append,hxl',hyl,Nat.add_mul]
         exact List.take_left' (by rw [List.length_append,hl1,hvl,hs'])
        obtain ⟨m',hR'⟩:=hR.rename (g:=g) (d:=d) (δ:=.row s' (es.take n ++ fs)) (e:=.own g s' (n + k)) (v:=.slice (some ⟨b,0,none⟩) (n + k) cap) hh hbl hgf hd (cc.mono (fun k hk=>by rw [hk]; exact hm')) (fun c q hq=>by rw [setRow_size]; exact hR.wf c q hq) (fun m' hm hg=>by
          refine .inr ⟨b,new.toArray,U,by rw [hg]; exact hm',setRow_heap w b cur new.toArray U (0,0) hb,hs0,hall,?_,?_,hF⟩
          ·rw [List.length_append,hxl',hyl,hnsz]; exact Nat.le_trans (Nat.mul_le_mul_right _ hroom) hcap
          ·have : new.toArray.toList = new:=rfl
           rw [this,htake]
           exact hcells.stable cc hm) (fun m' hg=>.own m' g s' (n + k) b cap new.toArray U (by rw [hg]; exact hm') hs0 hroom (setRow_heap w b cur new.toArray U (0,0) hb) (by rw [hnsz]; exact hcap)) (by rw [hm']; intro h; cases h)
        exact ⟨_,_,_,F,m',hr,.inl rfl,hR'⟩
      ·exact grown (by omega) (fun h=>by cases h)
    | _=>rw [hhv] at hxo; exact hxo.elim
   | sl=>rw [hv] at hsl; exact hsl.elim
   | _=>rw [hv] at hxo; exact hxo.elim
end
end
section
open Go.RowKit
section
variable {P : Program} {G : Ctx} {o : Oper} {σ τ : Env} {a : Act} {w : World} {F : Cells} {m : Names}
theorem flat_take {es : List D} {s : Nat} (hlen : ∀ (e : D),e ∈ es → e.cells.length = s) : ∀ k,D.flat (es.take k) = (D.flat es).take (k * s):=by
 induction es with
 | nil=>intro k; simp [D.flat]
 | cons e es ih=>
  intro k
  cases k with
  | zero=>simp [D.flat]
  | succ k=>
   have:=ih (fun e he=>hlen e (List.mem_cons_of_mem _ he)) k
   rw [D.flat,D.flat] at this
   rw [List.take_succ_cons,D.flat,D.flat,List.flatMap_cons,List.flatMap_cons,this,show (k + 1) * s = e.cells.length + k * s by rw [hlen e (List.mem_cons_self ..),Nat.add_mul]; omega,List.take_length_add_append]
theorem flat_drop {es : List D} {s : Nat} (hlen : ∀ (e : D),e ∈ es → e.cells.length = s) : ∀ k,D.flat (es.drop k) = (D.flat es).drop (k * s):=by
 induction es with
 | nil=>intro k; simp [D.flat]
 | cons e es ih=>
  intro k
  cases k with
  | zero=>simp [D.flat]
  | succ k=>
   have:=ih (fun e he=>hlen e (List.mem_cons_of_mem _ he)) k
   rw [D.flat,D.flat] at this
   rw [List.drop_succ_cons,D.flat,D.flat,List.flatMap_cons,this,show (k + 1) * s = e.cells.length + k * s by rw [hlen e (List.mem_cons_self ..),Nat.add_mul]; omega,List.drop_length_add_append]
theorem flat_setAll {es gs : List D} {s : Nat} (hlen : ∀ (e : D),e ∈ es → e.cells.length = s) (hg : ∀ (e : D),e ∈ gs → e.cells.length = s) (o : Nat) : D.flat (D.setAll es o gs) = D.setAll (D.flat es) (o * s) (D.flat gs):=by
 rw [D.setAll,flat_append,flat_append,flat_take hlen,flat_drop hlen,D.setAll,flat_len hg,Nat.add_mul]
theorem row_part (hR : RelF G τ a.tmps w F m) {g s q b : Nat} {es gs : List D} {vs : List Value} (hg : nb ≤ g) (hrow : τ g = .row s es) (hgs : ∀ (e : D),e ∈ gs → e.cells.length = s) (hvs : CellsOK w F m (D.flat gs) vs) (hle : q + gs.length ≤ es.length) (hmg : m g = some (some b)) :
  ∃ w',(storeCells ⟨b,q * s,none⟩ vs).run P w = .ok () w' ∧ RelF G (τ.set g (.row s (D.setAll es q gs))) a.tmps w' F m:=by
 have h2:=hR.blks g hg
 rw [hrow] at h2
 rcases h2 with ⟨_,h2⟩ | ⟨b',cur,U,hmg',hb,hs0,hel,hsz',hc,hF⟩
 ·rw [hmg] at h2; cases h2
 ·obtain rfl : b = b':=by rw [hmg] at hmg'; simpa using hmg'
  have hfl:=flat_len hel
  have hvl : vs.length = gs.length * s:=by rw [hvs.len,flat_len hgs]
  have hmul : q * s + gs.length * s ≤ es.length * s:=by rw [← Nat.add_mul]; exact Nat.mul_le_mul_right _ hle
  have hsz2 : q * s + vs.length ≤ cur.size:=by omega
  have hrun:=run_storeCells_at P b (q * s) U vs 0 cur w hb (by simpa using hsz2) hvs.one
  simp only [Nat.add_zero] at hrun
  have hset:=hc.setAll hvs (q * s) (by rw [hfl,flat_len hgs]; exact hmul)
  rw [← flat_setAll hel hgs q] at hset
  have hll : (D.setAll es q gs).length = es.length:=by rw [D.setAll,setAll_length _ _ _ hle]
  have hnl : ∀ (e : D),e ∈ D.setAll es q gs → e.cells.length = s:=fun e he=>by
   rw [D.setAll,List.mem_append,List.mem_append] at he
   rcases he with (he | he) | he
   ·exact hel e (List.mem_of_mem_take he)
   ·exact hgs e he
   ·exact hel e (List.mem_of_mem_drop he)
  generalize hnw : cur.toList.take (q * s) ++ vs ++ cur.toList.drop (q * s + vs.length) = new at hrun
  have hnsz : new.toArray.size = cur.size:=by rw [← hnw,List.size_toArray,setAll_length _ _ _ (by simpa using hsz2)]; simp
  have c:=Chg.setRow0 (F:=F) b cur new.toArray U hb hnsz hF
  have htake : new.take (es.length * s) = (cur.toList.take (es.length * s)).take (q * s) ++ vs ++ (cur.toList.take (es.length * s)).drop (q * s + vs.length):=by
   have hcl : (cur.toList.take (es.length * s)).length = es.length * s:=by rw [hc.len,hfl]
   apply List.ext_getElem?
   intro j
   rw [List.getElem?_take,setAll_get _ _ _ (by rw [hcl,hvl]; exact hmul),← hnw,setAll_get _ _ _ (by simpa using hsz2),List.getElem?_take]
   by_cases hj : j < es.length * s
   ·rw [if_pos hj,if_pos hj]
   ·rw [if_neg hj,if_neg (by rw [hvl]; omega),if_neg hj]
  refine ⟨_,hrun,hR.turn (δ:=.row s (D.setAll es q gs)) hg (by rw [hrow]; rfl) (c.mono (fun k hk=>by rw [hk]; exact hmg)) (fun c q hq=>by rw [setRow_size]; exact hR.wf c q hq) (.inr ⟨b,_,U,hmg,setRow_heap w b cur new.toArray U (0,0) hb,hs0,hnl,?_,?_,hF⟩) (by intro h; cases h)⟩
  ·rw [hll,hnsz]; exact hsz'
  ·rw [hll]
   have:=hset.stable c (fun _ _ h=>h)
   rw [← htake] at this
   simpa using this
theorem put_self (τ : Env) {g : Nat} {d : D} (h : τ g = d) : τ.set g d = τ:=by
 funext t
 by_cases e : t = g
 ·subst e; rw [Env.set_same,h]
 ·rw [Env.set_ne _ _ _ _ e]
theorem setAll_nil (es : List D) (q : Nat) : D.setAll es q [] = es:=by simp [D.setAll]
theorem dst_at {d : D} {x : Value} {st : Nat} (hf : Fz w F m d x) (hc : cpyOk σ st d) (hag : ∀ t,t ∈ cpyRoot d → τ t = σ t) :
  ∃ g q n es,nb ≤ g ∧ σ g = .row st es ∧ τ g = .row st es ∧ cpyRoot d = [g] ∧ q + n ≤ es.length ∧ (∀ k y,cpyU σ k d y = [(g,.row st (cpyL es q n (seqD σ y))),(k,.v (.int .i64 (min (lenD y) n : Nat)))]) ∧ (∀ k e,clrU σ k d e = (g,.row st (D.setAll es q (List.replicate n e))) :: clrT k) ∧
   ((∃ b cap,x = .slice (some ⟨b,q * st,none⟩) n cap ∧ m g = some (some b)) ∨ (n = 0 ∧ ∃ ad cap,x = .slice ad 0 cap)):=by
 unfold cpyOk at hc
 cases d with
 | owo g s q n=>
  obtain ⟨hg,rfl,hc⟩:=hc
  cases hgv : σ g with
  | row st' es=>
   rw [hgv] at hc
   obtain ⟨rfl,hle⟩:=hc
   refine ⟨g,q,n,es,hg,hgv,(hag g (List.mem_singleton.2 rfl)).trans hgv,rfl,hle,fun k y=>by simp only [cpyU,hgv],fun k y=>by simp only [clrU,hgv],?_⟩
   cases hf with
   | owo _ _ _ _ _ b cap cur U hmg _ _ _ _=>exact .inl ⟨b,cap,rfl,hmg⟩
   | owo0 _ _ _ _ ad cap p hmg=>exact .inr ⟨rfl,ad,cap,rfl⟩
  | _=>rw [hgv] at hc; exact hc.elim
 | own g s n=>
  obtain ⟨hg,rfl,hc⟩:=hc
  cases hgv : σ g with
  | row st' es=>
   rw [hgv] at hc
   obtain ⟨rfl,hle⟩:=hc
   refine ⟨g,0,n,es,hg,hgv,(hag g (List.mem_singleton.2 rfl)).trans hgv,rfl,by omega,fun k y=>by simp only [cpyU,hgv],fun k y=>by simp only [clrU,hgv],?_⟩
   cases hf with
   | own _ _ _ _ b cap cur U hmg _ _ _ _=>exact .inl ⟨b,cap,by rw [Nat.zero_mul],hmg⟩
   | own0 _ _ _ ad hmg=>exact .inr ⟨rfl,ad,0,rfl⟩
  | _=>rw [hgv] at hc; exact hc.elim
 | _=>exact hc.elim
theorem in_cpy {d T e st : Nat} {sz : Option Nat} {x y : Operand} {X Y : Opd} (ho : o.op = .call { callee:=.builtin .copy,args:=#[x,y],argTypes:=#[T,T] }) (hT : P.underlying T = some (.slice e)) (hsz : szOf P e = some sz) (hst : sz.getD 1 = st) (h0 : 0 < sz.getD 1)
  (hx : opd x = some X) (hy : opd y = some Y) (hdst : o.dst = some d) (hd : d < G.n) (h : In.ok σ (.cpy d X Y st)) : OpOK P G o (In.ent σ (.cpy d X Y st)) σ (In.upd σ (.cpy d X Y st)):=by
 obtain ⟨hc,hsq⟩:=h
 simp only [In.ent,In.upd]
 have hs0 : 0 < st:=by omega
 refine .of_run (fun p hp=>?_) (fun τ a w F m hag hR=>?_)
 ·unfold cpyU at hp
  show p.1 ∈ cpyRoot (X.val σ) ++ [d]
  revert hp
  generalize X.val σ = dx
  intro hp
  have two : ∀ (g : Nat) (r s : D),p ∈ [(g,r),(d,s)] → p.1 ∈ [g] ++ [d]:=fun g r s hp=>by
   rcases List.mem_cons.1 hp with rfl | hp
   ·exact List.mem_cons_self ..
   ·obtain rfl:=List.mem_singleton.1 hp; exact List.mem_cons_of_mem _ (List.mem_singleton.2 rfl)
  cases dx with
  | owo g s q n=>simp only at hp; split at hp <;> first | exact two _ _ _ hp | cases hp
  | own g s n=>simp only at hp; split at hp <;> first | exact two _ _ _ hp | cases hp
  | _=>cases hp
 ·have hfx:=opd_fz hR hx (fun t ht=>hag t (List.mem_append_left _ (List.mem_append_left _ (List.mem_append_left _ ht))))
  have hfy:=opd_fz hR hy (fun t ht=>hag t (List.mem_append_left _ (List.mem_append_left _ (List.mem_append_right _ ht))))
  obtain ⟨g,q,n,es,hg,hgv,hgσ,_,hle,hU,_,hxv⟩:=dst_at hfx hc (fun t ht=>hag t (List.mem_append_left _ (List.mem_append_right _ ht)))
  rw [hU]
  obtain ⟨q',c,vs,hye,hkc,hlen,hel,hcv,hrd,hnn⟩:=seq_val hR hfy hsq (fun t ht=>hag t (List.mem_append_right _ ht))
  generalize seqD σ (Y.val σ) = fs at hlen hel hcv ⊢
  generalize lenD (Y.val σ) = k at hye hkc hlen hnn ⊢
  have hpart:=part_cells hs0 hel hcv 0 (min k n) (Nat.zero_le _) (by rw [hlen]; exact Nat.min_le_left _ _)
  simp only [Nat.zero_mul,List.drop_zero,Nat.sub_zero] at hpart
  obtain ⟨p1,p2,p3⟩:=hpart
  have htk : fs.take n = fs.take (min k n):=by rw [List.take_eq_take_iff]; omega
  have hcp : cpyL es q n fs = D.setAll es q (fs.take (min k n)):=by rw [cpyL,htk]
  rw [hcp]
  have hvl : (vs.take (min k n * st)).length = min k n * st:=by rw [p3.len,flat_len p1,p2]
  have hfc : (Builtin.firstCells st (min k n) (.slice q' k c)).run P w = .ok (vs.take (min k n * st)).toArray w:=by
   cases q' with
   | none=>
    obtain rfl:=hnn rfl
    rw [Nat.zero_min,Nat.zero_mul,List.take_zero]
    exact run_firstCells_none (P:=P) w _ _ _ _
   | some ad=>exact run_firstCells_some (P:=P) w st (min k n) ad k c _ hvl (fun j v hj=>by
     rw [List.getElem?_take] at hj
     split at hj
     ·exact hrd ad rfl j v hj
     ·cases hj)
  have hso:=run_sizeOf' hsz w
  rw [hst] at hso
  generalize hxa : a.eval x = xv at hxv
  generalize hl2 : vs.take (min k n * st) = news at hvl hfc p3
  have hmn : Nat.min k n = min k n:=rfl
  rcases hxv with ⟨b,cap,rfl,hmg⟩ | ⟨rfl,ad,cap,rfl⟩
  ·obtain ⟨w',hw',hR'⟩:=row_part (P:=P) (q:=q) hR hg hgσ p1 p3 (by rw [p2]; have:=Nat.min_le_right k n; omega) hmg
   refine ⟨.value (.int .i64 (min k n : Nat)),.int .i64 (min k n : Nat),w',F,m,?_,.inl rfl,?_⟩
   ·simp [execOp,ho,resolve,invoke,builtin,Builtin.copy_,run_underlying hT,hxa,hye,Builtin.lenOf,hso,hmn,hfc,hw',goInt]
   ·rw [hdst]
    exact hR'.slot hd (.v _ _)
  ·rw [Nat.min_zero,Nat.zero_mul] at hvl
   obtain rfl:=List.eq_nil_of_length_eq_zero hvl
   rw [Nat.min_zero,List.take_zero,setAll_nil]
   refine ⟨.value (.int .i64 (0 : Nat)),.int .i64 (0 : Nat),w,F,m,?_,.inl rfl,?_⟩
   ·rw [Nat.min_zero] at hfc hmn
    cases ad <;> simp [execOp,ho,resolve,invoke,builtin,Builtin.copy_,run_underlying hT,hxa,hye,Builtin.lenOf,hso,hfc,storeCells,goInt]
   ·rw [hdst]
    show RelF G ((τ.set g (.row st es)).set d _) _ w F m
    rw [put_self τ hgσ]
    exact hR.slot hd (.v _ _)
theorem in_clr {d T e st : Nat} {sz : Option Nat} {zs : List D} {x : Operand} {X : Opd} (ho : o.op = .call { callee:=.builtin .clear,args:=#[x],argTypes:=#[T] }) (hT : P.underlying T = some (.slice e)) (hst : sz.getD 1 = st) (h0 : 0 < sz.getD 1) (hz : zsOf P e = some zs) (hn : zs.length = sz.getD 1)
  (hx : opd x = some X) (hdst : o.dst = some d) (hd : d < G.n) (h : In.ok σ (.clr (some d) X st (zeroElem sz zs))) : OpOK P G o (In.ent σ (.clr (some d) X st (zeroElem sz zs))) σ (In.upd σ (.clr (some d) X st (zeroElem sz zs))):=by
 have hc : cpyOk σ st (X.val σ):=h
 simp only [In.ent,In.upd]
 have hs0 : 0 < st:=by omega
 obtain ⟨iz,z,hiz,hzz,hzs,hze,hzc⟩:=zero_cells hz hn
 rw [hst] at hzs hze
 refine .of_run (fun p hp=>?_) (fun τ a w F m hag hR=>?_)
 ·unfold clrU at hp
  show p.1 ∈ cpyRoot (X.val σ) ++ [d]
  revert hp
  generalize X.val σ = dx
  intro hp
  have two : ∀ (g : Nat) (r s : D),p ∈ [(g,r),(d,s)] → p.1 ∈ [g] ++ [d]:=fun g r s hp=>by
   rcases List.mem_cons.1 hp with rfl | hp
   ·exact List.mem_cons_self ..
   ·obtain rfl:=List.mem_singleton.1 hp; exact List.mem_cons_of_mem _ (List.mem_singleton.2 rfl)
  cases dx with
  | owo g s q n=>simp only [clrT] at hp; split at hp <;> first | exact two _ _ _ hp | cases hp
  | own g s n=>simp only [clrT] at hp; split at hp <;> first | exact two _ _ _ hp | cases hp
  | _=>cases hp
 ·have hfx:=opd_fz hR hx (fun t ht=>hag t (List.mem_append_left _ ht))
  obtain ⟨g,q,n,es,hg,hgv,hgσ,_,hle,_,hU,hxv⟩:=dst_at hfx hc (fun t ht=>hag t (List.mem_append_right _ ht))
  rw [hU]
  have hmade:=made_cells (w:=w) (F:=F) (m:=m) hs0 hzs hze (hzc w F m) n
  have hlr : ∀ (x : D),x ∈ List.replicate n (zeroElem sz zs) → x.cells.length = st:=fun x hx=>by rw [(List.mem_replicate.1 hx).2]; exact hze
  have htup : ∀ (w' : World),Fz w' F m (.tup []) (.tuple #[]):=fun w'=>.tup m [] [] rfl (fun i d u h=>by simp at h)
  have stay : n = 0 → RelF G ((τ.set g (.row st (D.setAll es q (List.replicate n (zeroElem sz zs))))).set d (.tup [])) (a.tmps.setIfInBounds d (.tuple #[])) w F m:=by
   rintro rfl
   rw [List.replicate_zero,setAll_nil,put_self τ hgσ]
   exact hR.slot hd (htup w)
  generalize hxa : a.eval x = xv at hxv
  rcases hxv with ⟨b,cap,rfl,hmg⟩ | ⟨rfl,ad,cap,rfl⟩
  ·cases n with
   | zero=>
    refine ⟨.value (.tuple #[]),.tuple #[],w,F,m,?_,.inl rfl,?_⟩
    ·simp [execOp,ho,resolve,invoke,builtin,Builtin.clear_,run_underlying hT,hxa]
    ·rw [hdst]; exact stay rfl
   | succ n=>
    obtain ⟨w',hw',hR'⟩:=row_part (P:=P) (q:=q) hR hg hgσ hlr hmade (by rw [List.length_replicate]; exact hle) hmg
    refine ⟨.value (.tuple #[]),.tuple #[],w',F,m,?_,.inl rfl,?_⟩
    ·have hzq : Builtin.zeroCells z.cells (n + 1) = Array.map (fun x=>z.cells[x % z.cells.size]!) (Array.range ((n + 1) * st)):=by rw [Builtin.zeroCells,hzs]
     rw [← hzq] at hw'
     simp [execOp,ho,resolve,invoke,builtin,Builtin.clear_,run_underlying hT,hxa,zeroValue,typeInfo,hiz,hzz,hw']
    ·rw [hdst]
     exact hR'.slot hd (htup w')
  ·refine ⟨.value (.tuple #[]),.tuple #[],w,F,m,?_,.inl rfl,?_⟩
   ·cases ad <;> simp [execOp,ho,resolve,invoke,builtin,Builtin.clear_,run_underlying hT,hxa]
   ·rw [hdst]; exact stay rfl
theorem in_clr0 {T e st : Nat} {sz : Option Nat} {zs : List D} {x : Operand} {X : Opd} (ho : o.op = .call { callee:=.builtin .clear,args:=#[x],argTypes:=#[T] }) (hT : P.underlying T = some (.slice e)) (hst : sz.getD 1 = st) (h0 : 0 < sz.getD 1) (hz : zsOf P e = some zs) (hn : zs.length = sz.getD 1)
  (hx : opd x = some X) (hdst : o.dst = none) (h : In.ok σ (.clr none X st (zeroElem sz zs))) : OpOK P G o (In.ent σ (.clr none X st (zeroElem sz zs))) σ (In.upd σ (.clr none X st (zeroElem sz zs))):=by
 have hc : cpyOk σ st (X.val σ):=h
 simp only [In.ent,In.upd]
 have hs0 : 0 < st:=by omega
 obtain ⟨iz,z,hiz,hzz,hzs,hze,hzc⟩:=zero_cells hz hn
 rw [hst] at hzs hze
 refine .of_run (fun p hp=>?_) (fun τ a w F m hag hR=>?_)
 ·unfold clrU at hp
  show p.1 ∈ cpyRoot (X.val σ) ++ []
  rw [List.append_nil]
  revert hp
  generalize X.val σ = dx
  intro hp
  cases dx with
  | owo g s q n=>simp only [clrT] at hp; split at hp <;> first | (obtain rfl:=List.mem_singleton.1 hp; exact List.mem_singleton.2 rfl) | cases hp
  | own g s n=>simp only [clrT] at hp; split at hp <;> first | (obtain rfl:=List.mem_singleton.1 hp; exact List.mem_singleton.2 rfl) | cases hp
  | _=>cases hp
 ·have hfx:=opd_fz hR hx (fun t ht=>hag t (List.mem_append_left _ ht))
  obtain ⟨g,q,n,es,hg,hgv,hgσ,_,hle,_,hU,hxv⟩:=dst_at hfx hc (fun t ht=>hag t (List.mem_append_right _ ht))
  rw [hU]
  have hmade:=made_cells (w:=w) (F:=F) (m:=m) hs0 hzs hze (hzc w F m) n
  have hlr : ∀ (x : D),x ∈ List.replicate n (zeroElem sz zs) → x.cells.length = st:=fun x hx=>by rw [(List.mem_replicate.1 hx).2]; exact hze
  have stay : n = 0 → RelF G (τ.set g (.row st (D.setAll es q (List.replicate n (zeroElem sz zs))))) a.tmps w F m:=by
   rintro rfl
   rw [List.replicate_zero,setAll_nil,put_self τ hgσ]
   exact hR
  generalize hxa : a.eval x = xv at hxv
  rcases hxv with ⟨b,cap,rfl,hmg⟩ | ⟨rfl,ad,cap,rfl⟩
  ·cases n with
   | zero=>
    refine ⟨.value (.tuple #[]),.tuple #[],w,F,m,?_,.inl rfl,?_⟩
    ·simp [execOp,ho,resolve,invoke,builtin,Builtin.clear_,run_underlying hT,hxa]
    ·rw [hdst]; exact stay rfl
   | succ n=>
    obtain ⟨w',hw',hR'⟩:=row_part (P:=P) (q:=q) hR hg hgσ hlr hmade (by rw [List.length_replicate]; exact hle) hmg
    refine ⟨.value (.tuple #[]),.tuple #[],w',F,m,?_,.inl rfl,?_⟩
    ·have hzq : Builtin.zeroCells z.cells (n + 1) = Array.map (fun x=>z.cells[x % z.cells.size]!) (Array.range ((n + 1) * st)):=by rw [Builtin.zeroCells,hzs]
     rw [← hzq] at hw'
     simp [execOp,ho,resolve,invoke,builtin,Builtin.clear_,run_underlying hT,hxa,zeroValue,typeInfo,hiz,hzz,hw']
    ·rw [hdst]
     exact hR'
  ·refine ⟨.value (.tuple #[]),.tuple #[],w,F,m,?_,.inl rfl,?_⟩
   ·cases ad <;> simp [execOp,ho,resolve,invoke,builtin,Builtin.clear_,run_underlying hT,hxa]
   ·rw [hdst]; exact stay rfl
theorem in_capn {d T e : Nat} {x : Operand} {X : Opd} (ho : o.op = .call { callee:=.builtin .cap,args:=#[x],argTypes:=#[T] }) (hT : P.underlying T = some (.slice e)) (hx : opd x = some X) (hdst : o.dst = some d) (hd : d < G.n) (h : In.ok σ (.capn d X)) : OpOK P G o (In.ent σ (.capn d X)) σ (In.upd σ (.capn d X)):=by
 simp only [In.ok] at h
 refine .pure hdst hd (fun τ a w F m hag hR=>⟨_,?_,.v m _⟩)
 have hfx:=opd_fz hR hx hag
 cases hv : X.val σ with
 | nul=>
  rw [hv] at hfx
  generalize hy : a.eval x = y at hfx
  cases hfx with
  | nul _ q=>simp [execOp,ho,resolve,invoke,builtin,Builtin.cap_,hy,run_underlying hT,goInt]
 | _=>rw [hv] at h; exact h.elim
theorem run_append_make {T U ty e : TypeId} {kd : IntKind} {i : TypeInfo} {z : Value} (ht : P.underlying T = some (.slice e)) (hu : P.underlying U = some (.int kd)) (hi : P.info? e = some i) (hz : i.zero = some z) {w : World} {q : Option Addr} {k : IntKind} {n : Nat}
  (h0 : 0 < n) (h1 : n ≤ 1073741824) (h2 : n * i.bytes ≤ 1099511627776) (hs0 : 0 < i.size) :
  (Builtin.append_ #[T,U] ty #[.slice q 0 0,.int k n]).run P w = .ok (.slice (some ⟨w.heap.size,0,none⟩) n (grownCap w n 0 e)) (w.drew.alloc (.cells (Builtin.zeroCells z.cells n ++ Builtin.zeroCells z.cells (grownCap w n 0 e - n)) e)):=by
 have hw : IntKind.i64.wrap (n : Int) = n:=by
  have : (n : Int) ≤ 1073741824:=by omega
  simp [IntKind.wrap,IntKind.bits,IntKind.signed]
  omega
 have hn : n ≠ 0:=by omega
 have hs : ¬ (n * i.size = 0):=by have:=Nat.mul_pos h0 hs0; omega
 have h63' : ¬ (9223372036854775807 < (n : Int)):=by omega
 have hb : ¬ (281474976710656 < (n : Int) * i.bytes):=by rw [← Int.natCast_mul]; omega
 have h48' : ¬ (281474976710656 < Builtin.nextslicecap n 0 * i.bytes):=by rw [nextslicecap_zero h0]; omega
 have hneg : ¬ ((n : Int) < 0):=by omega
 have hf : ∀ w : World,(Builtin.firstCells i.size 0 (.slice q 0 0)).run P w = .ok #[] w:=by
  intro w
  cases q with
  | none=>simp [Builtin.firstCells]
  | some b=>simpa using run_firstCells_some (P:=P) w i.size 0 b 0 0 [] (by simp) (by simp)
 simp [Builtin.append_,run_underlying ht,run_underlying hu,sizeOf,typeInfo,zeroValue,hi,hz,asInt,asIntOf,hw,hn,hs,hneg,hb,h63',h48',Question.forced,hf,newRow,grownCap]
theorem in_apm {d g T U e by_ : Nat} {kd : IntKind} {n : Option Nat} {zs : List D} {i : TypeInfo} {x y : Operand} {X Y : Opd} (ho : o.op = .call { callee:=.builtin .append,args:=#[x,y],argTypes:=#[T,U] }) (hT : P.underlying T = some (.slice e)) (hU : P.underlying U = some (.int kd)) (hsz : szOf P e = some n)
  (h0 : 0 < n.getD 1) (hz : zsOf P e = some zs) (hn : zs.length = n.getD 1) (hi : P.info? e = some i) (hby : i.bytes = by_) (hx : opd x = some X) (hy : opd y = some Y) (hdst : o.dst = some d) (hd : d < G.n) (h : In.ok σ (.apm d g X Y (n.getD 1) by_ (zeroElem n zs))) :
  OpOK P G o (In.ent σ (.apm d g X Y (n.getD 1) by_ (zeroElem n zs))) σ (In.upd σ (.apm d g X Y (n.getD 1) by_ (zeroElem n zs))):=by
 obtain ⟨hfr,hxn,h1,hm0,hmm,hb⟩:=h
 obtain ⟨k,hm⟩:=int_val h1
 refine .of_run (fun p hp=>?_) (fun τ a w F m' hag hR=>?_)
 ·rcases List.mem_cons.1 hp with rfl | hp
  ·exact List.mem_cons_self ..
  ·obtain rfl:=List.mem_singleton.1 hp; exact List.mem_cons_of_mem _ (List.mem_singleton.2 rfl)
 ·simp only [In.upd]
  have hfx:=opd_fz hR hx (fun t ht=>hag t (List.mem_cons_of_mem _ (List.mem_append_left _ ht)))
  have hye:=opd_v hR hy (fun t ht=>hag t (List.mem_cons_of_mem _ (List.mem_append_right _ ht))) hm
  have hq : ∃ q,a.eval x = .slice q 0 0:=by
   revert hxn hfx
   cases X.val σ with
   | nul=>intro _ hfx; generalize a.eval x = y at hfx; cases hfx; exact ⟨_,rfl⟩
   | _=>exact fun h=>h.elim
  obtain ⟨q0,hxe⟩:=hq
  generalize intD σ Y = q at hm0 hmm hb hye
  obtain ⟨i',z,hi',hzz,hzs,hel,hzc⟩:=zero_cells hz hn
  rw [hi] at hi'
  obtain rfl:=Option.some.inj hi'
  obtain ⟨_,i'',_,hi'',hsi,_⟩:=szOf_some hsz
  rw [hi] at hi''
  obtain rfl:=Option.some.inj hi''
  have hmt : (q.toNat : Int) = q:=by omega
  rw [← hmt] at hye
  generalize q.toNat = c at hmt hye hb ⊢
  have hrun : (execOp a.eval o).run P w = .ok (.value (.slice (some ⟨w.heap.size,0,none⟩) c (grownCap w c 0 e))) (w.drew.alloc (.cells (Builtin.zeroCells z.cells c ++ Builtin.zeroCells z.cells (grownCap w c 0 e - c)) e)):=by
   have:=run_append_make (P:=P) (ty:=o.type) (w:=w) (q:=q0) (k:=k) (n:=c) hT hU hi hzz (by omega) (by omega) (by rw [hby,Nat.mul_comm]; exact hb) (by rw [hsi]; exact h0)
   simp [execOp,ho,resolve,invoke,builtin,hxe,hye,this]
  have hf : freeN τ g:=⟨hfr.1,by rw [hag g (List.mem_cons_self ..)]; exact hfr.2⟩
  have hlen : ∀ (f : D),f ∈ List.replicate c (zeroElem n zs) → f.cells.length = n.getD 1:=fun f hf=>by rw [(List.mem_replicate.1 hf).2]; exact hel
  have hmade:=made_cells h0 hzs hel (hzc w F m') c
  have hms : (Builtin.zeroCells z.cells c).toList = ((Array.range (c * n.getD 1)).map (z.cells[· % z.cells.size]!)).toList:=by rw [Builtin.zeroCells,hzs]
  rw [← hms] at hmade
  have hml:=hmade.len
  rw [flat_len hlen] at hml
  have hge:=grownCap_ge w c 0 e
  obtain ⟨m1,hR'⟩:=hR.drew.madeRow (s:=n.getD 1) (k:=c) (cap:=grownCap w c 0 e) (cur:=Builtin.zeroCells z.cells c ++ Builtin.zeroCells z.cells (grownCap w c 0 e - c)) (T:=e) (es:=List.replicate c (zeroElem n zs)) hf hd h0 (by simp) hge
   (by rw [Array.size_append,size_zeroCells,size_zeroCells,hzs,← Nat.add_mul]; exact Nat.mul_le_mul_right _ (by omega)) hlen
   (by rw [Array.toList_append,List.take_left' (by rw [hml])]; exact hmade.stable ((Chg.refl w F noBlocks).drew) (fun _ _ h=>h))
  refine ⟨_,_,_,F,m1,hrun,.inl rfl,?_⟩
  rw [hdst]
  exact hR'
theorem eqOk_int {ks : List Bool} {xs ys : List D} (h : eqOk (true :: ks) xs ys) : ∃ k a b xs' ys',xs = .v (.int k a) :: xs' ∧ ys = .v (.int k b) :: ys' ∧ eqOk ks xs' ys' ∧ eqB (true :: ks) xs ys = (a == b && eqB ks xs' ys'):=by
 cases xs with
 | nil=>exact h.elim
 | cons x xs=>
  cases x with
  | v x=>
   cases x with
   | int k a=>
    cases ys with
    | nil=>exact h.elim
    | cons y ys=>
     cases y with
     | v y=>
      cases y with
      | int k' b=>
       obtain ⟨rfl,h⟩:=h
       exact ⟨k,a,b,xs,ys,rfl,rfl,h,rfl⟩
      | _=>exact h.elim
     | _=>exact h.elim
   | _=>exact h.elim
  | _=>exact h.elim
theorem eqOk_bool {ks : List Bool} {xs ys : List D} (h : eqOk (false :: ks) xs ys) : ∃ a b xs' ys',xs = .v (.bool a) :: xs' ∧ ys = .v (.bool b) :: ys' ∧ eqOk ks xs' ys' ∧ eqB (false :: ks) xs ys = (a == b && eqB ks xs' ys'):=by
 cases xs with
 | nil=>exact h.elim
 | cons x xs=>
  cases x with
  | v x=>
   cases x with
   | bool a=>
    cases ys with
    | nil=>exact h.elim
    | cons y ys=>
     cases y with
     | v y=>
      cases y with
      | bool b=>exact ⟨a,b,xs,ys,rfl,rfl,h,rfl⟩
      | _=>exact h.elim
     | _=>exact h.elim
   | _=>exact h.elim
  | _=>exact h.elim
theorem eqB_run (c : Nat) (w : World) (us vs : Array Value) : ∀ (fs : List Field) (ks : List Bool) (xs ys : List D) (k : Nat), scalars P k fs = some ks → eqOk ks xs ys →
    (∀ (i : Nat) (x : Value), xs[i]? = some (.v x) → us[k + i]? = some x) → (∀ (i : Nat) (x : Value), ys[i]? = some (.v x) → vs[k + i]? = some x) → (Op.eqFields (c + 1) us vs fs).run P w = .ok (eqB ks xs ys) w
  | [], ks, xs, ys, k, hs, he, _, _ => by
    obtain rfl : [] = ks := by simpa [scalars] using hs
    cases xs with
    | nil => cases ys with
      | nil => rfl
      | cons y ys => exact he.elim
    | cons x xs => exact he.elim
  | f :: fs, ks, xs, ys, k, hs, he, hu, hv => by
    rw [scalars] at hs
    split at hs
    case isFalse => cases hs
    rename_i hno
    rw [Bool.and_eq_true] at hno
    have hname : f.name ≠ "_" := by simpa using hno.1
    have hoff : f.offset = k := by simpa using hno.2
    have main : ∀ (td : TypeDesc) (ks' : List Bool) (x y : Value) (xs' ys' : List D) (q : Bool), P.underlying f.type = some td → (td matches .int _ | .bool) = true → scalars P (k + 1) fs = some ks' → xs = .v x :: xs' → ys = .v y :: ys' →
        (Op.equalIn (c + 1) f.type x y).run P w = .ok q w → eqOk ks' xs' ys' → eqB ks xs ys = (q && eqB ks' xs' ys') → (Op.eqFields (c + 1) us vs (f :: fs)).run P w = .ok (eqB ks xs ys) w := by
      intro td ks' x y xs' ys' q ht hm hs' hxs hys hq he' hr
      rw [hr]
      subst hxs hys
      have hux := hu 0 x rfl
      have hvy := hv 0 y rfl
      rw [Nat.add_zero] at hux hvy
      have h1 : (isAgg f.type).run P w = .ok false w := by
        cases td <;> first | (simp [isAgg, run_underlying ht]; done) | (simp at hm; done)
      have h2 := eqB_run c w us vs fs ks' xs' ys' (k + 1) hs' he' (fun i x hx => by have := hu (i + 1) x (by simpa using hx); rwa [show k + (i + 1) = k + 1 + i by omega] at this)
        (fun i x hx => by have := hv (i + 1) x (by simpa using hx); rwa [show k + (i + 1) = k + 1 + i by omega] at this)
      cases q <;> simp [Op.eqFields, hname, part, h1, hoff, hux, hvy, hq, h2]
    split at hs
    · rename_i q ht
      cases hks : scalars P (k + 1) fs with
      | none => rw [hks] at hs; cases hs
      | some ks' =>
        rw [hks] at hs
        obtain rfl : true :: ks' = ks := by simpa using hs
        obtain ⟨p, a, b, xs', ys', hxs, hys, he', hr⟩ := eqOk_int he
        exact main _ ks' _ _ xs' ys' (a == b) ht rfl hks hxs hys (run_equalIn_int (P := P) w c f.type p q a b ht) he' hr
    · rename_i ht
      cases hks : scalars P (k + 1) fs with
      | none => rw [hks] at hs; cases hs
      | some ks' =>
        rw [hks] at hs
        obtain rfl : false :: ks' = ks := by simpa using hs
        obtain ⟨a, b, xs', ys', hxs, hys, he', hr⟩ := eqOk_bool he
        exact main _ ks' _ _ xs' ys' (a == b) ht rfl hks hxs hys (run_equalIn_bool' (P := P) w c f.type a b ht) he' hr
    · cases hs
theorem CellsOK.v_at {cs : List D} {us : List Value} (h : CellsOK w F m cs us) (i : Nat) (x : Value) (hi : cs[i]? = some (.v x)) : us.toArray[0 + i]? = some x:=by
 have hl : i < us.length:=by rw [h.len]; exact (List.getElem?_eq_some_iff.1 hi).1
 have:=h.fz i _ us[i] hi (List.getElem?_eq_getElem hl)
 rw [Nat.zero_add,List.getElem?_toArray,List.getElem?_eq_getElem hl]
 congr 1
 exact this.v_eq
theorem in_eqs {d T T' : Nat} {neg : Bool} {ks : List Bool} {x y : Operand} {X Y : Opd} (ho : o.op = .binOp (if neg then .neq else .eql) T x y T') (hT : flatType P T = some ks) (hx : opd x = some X) (hy : opd y = some Y) (hdst : o.dst = some d) (hd : d < G.n)
  (h : In.ok σ (.eqs d neg ks X Y)) : OpOK P G o (In.ent σ (.eqs d neg ks X Y)) σ (In.upd σ (.eqs d neg ks X Y)):=by
 unfold flatType at hT
 split at hT
 case h_2=>cases hT
 rename_i fields hu
 split at hT
 case isFalse=>cases hT
 rename_i hst
 rw [Bool.and_eq_true,Bool.not_eq_true',Bool.not_eq_true'] at hst
 simp only [In.ok] at h
 simp only [In.upd]
 split at h
 ·rename_i xs ys hvx hvy
  refine .pure hdst hd (fun τ a w F m hag hR=>⟨_,?_,.v m _⟩)
  have hsx:=opd_fz hR hx (fun t ht=>hag t (List.mem_append_left _ ht))
  rw [hvx] at hsx
  obtain ⟨us,hxe,hus⟩:=hsx.aggOf
  have hsy:=opd_fz hR hy (fun t ht=>hag t (List.mem_append_right _ ht))
  rw [hvy] at hsy
  obtain ⟨vs,hye,hvs⟩:=hsy.aggOf
  have hf : P.fieldsOf T = fields:=by simp [Program.fieldsOf,hu]
  have h1:=eqB_run (P:=P) 9998 w us.toArray vs.toArray fields.toList ks xs ys 0 hT h hus.v_at hvs.v_at
  have h2:=run_equalIn_struct (P:=P) w 9999 T us.toArray vs.toArray (by rw [hf,hu]) hst.1
  rw [hf,h1] at h2
  have hg : ∀ op : BinOp,(eqGuard op T x y (.agg us.toArray) (.agg vs.toArray)).run P w = .ok () w:=fun op=>run_eqGuard_agg (P:=P) w op T x y _ _ hst.2
  cases neg with
  | false=>simp [execOp,ho,hxe,hye,hg,run_eql_struct,h2]
  | true=>simp [execOp,ho,hxe,hye,hg,run_neq_struct,h2]
 ·exact h.elim
def callU (R : List Nat) (H' : List D) (d : Nat) (r : D) : Upd:=(R.zip (H'.map (D.ren R))) ++ [(d,r.ren R)]
structure CallOK (σ : Env) (R : List Nat) (H H' : List D) : Prop where
 len : R.length = H'.length
 le : H.length ≤ H'.length
 nd : R.Nodup
 ge : ∀ g,g ∈ R → nb ≤ g
 old : ∀ (i : Nat) (d : D) (g : Nat),H[i]? = some d → R[i]? = some g → d.isBlk = true ∧ σ g = d.ren R
 new : ∀ (i g : Nat),H.length ≤ i → R[i]? = some g → σ g = .free
theorem isBlk_ren (R : List Nat) (d : D) : (d.ren R).isBlk = d.isBlk:=by
 cases d <;> rw [D.ren] <;> first | rfl | (split <;> rfl)
theorem flat_renL (R : List Nat) (es : List D) : D.flat (D.renL R es) = D.renL R (D.flat es):=by
 have hc : ∀ e : D,(e.ren R).cells = D.renL R e.cells:=by
  intro e
  cases e with
  | ref g o=>rw [D.ren]; simp only [D.renL,D.ren,show (D.ref g o).cells = [D.ref g o] from rfl]; cases nameOf R g <;> rfl
  | own g s n=>rw [D.ren]; simp only [D.renL,D.ren,show (D.own g s n).cells = [D.own g s n] from rfl]; cases nameOf R g <;> rfl
  | owo g s o n=>rw [D.ren]; simp only [D.renL,D.ren,show (D.owo g s o n).cells = [D.owo g s o n] from rfl]; cases nameOf R g <;> rfl
  | eref g s i o=>rw [D.ren]; simp only [D.renL,D.ren,show (D.eref g s i o).cells = [D.eref g s i o] from rfl]; cases nameOf R g <;> rfl
  | _=>rw [D.ren]; rfl
 rw [D.renL_map,D.renL_map,D.flat,D.flat,List.flatMap_map,List.map_flatMap]
 congr 1
 funext e
 rw [hc,D.renL_map]
theorem cells_ren (R : List Nat) (e : D) : (e.ren R).cells = D.renL R e.cells:=by
 have:=flat_renL R [e]
 simpa [D.flat,D.renL] using this
theorem CellsOK.unren {cs : List D} {us : List Value} {R : List Nat} {m' : Names} (h : CellsOK w F m (D.renL R cs) us) (hm : ∀ g g',nameOf R g = some g' → m' g = m g') : CellsOK w F m' cs us:=by
 refine ⟨by rw [h.len,D.renL_map,List.length_map],h.one,fun j d u hd hu=>(h.fz j (d.ren R) u (by rw [D.renL_map,List.getElem?_map,hd]; rfl) hu).unren hm rfl⟩
theorem CellsOK.ren {cs : List D} {us : List Value} {R : List Nat} {m' : Names} (h : CellsOK w F m cs us) (hm : ∀ g p,m g = some p → ∃ g',nameOf R g = some g' ∧ m' g' = some p) : CellsOK w F m' (D.renL R cs) us:=by
 refine ⟨by rw [h.len,D.renL_map,List.length_map],h.one,fun j d u hd hu=>?_⟩
 rw [D.renL_map,List.getElem?_map] at hd
 cases hc : cs[j]? with
 | none=>rw [hc] at hd; cases hd
 | some e=>
  rw [hc] at hd
  obtain rfl : e.ren R = d:=by simpa using hd
  exact (h.fz j e u hc hu).ren hm
theorem Blk.unren {d : D} {R : List Nat} {g g' : Nat} {m' : Names} (hb : d.isBlk = true) (h : Blk w F m g' (d.ren R)) (hm : ∀ g g',nameOf R g = some g' → m' g = m g') (hg : m' g = m g') : Blk w F m' g d:=by
 cases d with
 | obj cs=>
  rw [D.ren] at h
  obtain ⟨b,cur,U,h1,h2,h3,h4⟩:=h
  exact ⟨b,cur,U,hg.trans h1,h2,h3.unren hm,h4⟩
 | row s es=>
  rw [D.ren] at h
  rcases h with ⟨h1,h2⟩ | ⟨b,cur,U,h1,h2,h3,h4,h5,h6,h7⟩
  ·left
   rw [D.renL_map] at h1
   exact ⟨by simpa using h1,hg.trans h2⟩
  ·have hl : (D.renL R es).length = es.length:=by rw [D.renL_map,List.length_map]
   right
   rw [hl,flat_renL] at h6
   rw [hl] at h5
   refine ⟨b,cur,U,hg.trans h1,h2,h3,fun e he=>?_,h5,h6.unren hm,h7⟩
   have:=h4 (e.ren R) (by rw [D.renL_map]; exact List.mem_map_of_mem he)
   rwa [cells_ren,D.renL_map,List.length_map] at this
 | _=>cases hb
theorem Blk.ren {d : D} {R : List Nat} {g g' : Nat} {m' : Names} (hf : d ≠ .free) (h : Blk w F m g d) (hm : ∀ g p,m g = some p → ∃ g',nameOf R g = some g' ∧ m' g' = some p) (hg : ∀ p,m g = some p → m' g' = some p) : Blk w F m' g' (d.ren R):=by
 cases d with
 | obj cs=>
  obtain ⟨b,cur,U,h1,h2,h3,h4⟩:=h
  rw [D.ren]
  exact ⟨b,cur,U,hg _ h1,h2,h3.ren hm,h4⟩
 | row s es=>
  have hl : (D.renL R es).length = es.length:=by rw [D.renL_map,List.length_map]
  rw [D.ren]
  rcases h with ⟨h1,h2⟩ | ⟨b,cur,U,h1,h2,h3,h4,h5,h6,h7⟩
  ·exact .inl ⟨by rw [h1]; rfl,hg _ h2⟩
  ·refine .inr ⟨b,cur,U,hg _ h1,h2,h3,fun e he=>?_,by rw [hl]; exact h5,by rw [hl,flat_renL]; exact h6.ren hm,h7⟩
   rw [D.renL_map] at he
   obtain ⟨e',he',rfl⟩:=List.mem_map.1 he
   rw [cells_ren,D.renL_map,List.length_map]
   exact h4 e' he'
 | free=>exact absurd rfl hf
 | any=>trivial
 | _=>exact h.elim
theorem nameOf_some {R : List Nat} {g g' : Nat} (h : nameOf R g = some g') : nb ≤ g ∧ R[g - nb]? = some g':=by
 unfold nameOf at h
 split at h
 ·cases h
 ·exact ⟨by omega,h⟩
theorem nameOf_at {R : List Nat} (i : Nat) : nameOf R (nb + i) = R[i]?:=by
 unfold nameOf
 rw [if_neg (by omega),Nat.add_sub_cancel_left]
theorem zip_mem {R : List Nat} {xs : List D} {p : Nat × D} (h : p ∈ R.zip xs) : ∃ i : Nat,R[i]? = some p.1 ∧ xs[i]? = some p.2:=by
 obtain ⟨i,hi⟩:=List.mem_iff_getElem?.1 h
 rw [List.getElem?_zip_eq_some] at hi
 exact ⟨i,hi.1,hi.2⟩
theorem put_zip {R : List Nat} {xs : List D} (hnd : R.Nodup) (hl : R.length = xs.length) (τ : Env) : (∀ (i g : Nat) (x : D),R[i]? = some g → xs[i]? = some x → Env.put (R.zip xs) τ g = x) ∧ ∀ t,t ∉ R → Env.put (R.zip xs) τ t = τ t:=by
 induction R generalizing xs τ with
 | nil=>exact ⟨fun i g x h=>by simp at h,fun t _=>rfl⟩
 | cons g0 R ih=>
  cases xs with
  | nil=>simp at hl
  | cons x0 xs=>
   rw [List.nodup_cons] at hnd
   obtain ⟨h1,h2⟩:=ih (xs:=xs) hnd.2 (by simpa using hl) (τ.set g0 x0)
   refine ⟨fun i g x hg hx=>?_,fun t ht=>?_⟩
   ·rw [List.zip_cons_cons,Env.put]
    cases i with
    | zero=>
     obtain rfl : g0 = g:=by simpa using hg
     obtain rfl : x0 = x:=by simpa using hx
     rw [h2 _ hnd.1,Env.set_same]
    | succ i=>exact h1 i g x (by simpa using hg) (by simpa using hx)
   ·rw [List.mem_cons,not_or] at ht
    rw [List.zip_cons_cons,Env.put,h2 t ht.2,Env.set_ne _ _ _ _ ht.1]
end
end
section
open Go.RowKit
section
variable {P : Program} {G : Ctx} {o : Oper} {σ τ : Env} {a : Act} {w : World} {F : Cells} {m : Names} {tm : Array Value}
open Classical in
noncomputable def afterN (R : List Nat) (mc m : Names) : Names:=fun g=>if h : ∃ i : Nat,R[i]? = some g then mc (nb + h.choose) else m g
theorem afterN_in {R : List Nat} {mc m : Names} (hnd : R.Nodup) {i g : Nat} (h : R[i]? = some g) : afterN R mc m g = mc (nb + i):=by
 have hex : ∃ i : Nat,R[i]? = some g:=⟨i,h⟩
 unfold afterN
 rw [dif_pos hex]
 have hc:=hex.choose_spec
 have : hex.choose = i:=(List.getElem?_inj (List.getElem?_eq_some_iff.1 hc).1 hnd).1 (hc.trans h.symm)
 rw [this]
theorem afterN_out {R : List Nat} {mc m : Names} {g : Nat} (h : g ∉ R) : afterN R mc m g = m g:=by
 unfold afterN
 rw [dif_neg (fun ⟨i,hi⟩=>h (List.mem_of_getElem? hi))]
theorem call_coreX (hR : RelF G τ tm w F m) {f : FuncId} {H ds H' : List D} {r : D} {R : List Nat} {xs : List Value} (hdo : Does P f H ds r H') (hc : CallOK τ R H H') (hl : xs.length = ds.length)
  (hx : ∀ (i : Nat) (d : D) (x : Value),ds[i]? = some d → xs[i]? = some x → Fz w F m (d.ren R) x) {d : Nat} (hd : d < G.n) :
  Calls P f xs.toArray w (fun e w'=>∃ v,e = .returned v ∧ ∃ F' m',RelF G (Env.put (callU R H' d r) τ) (tm.setIfInBounds d v) w' F' m' ∧ (∀ g q,m g = some q → m' g = some q) ∧ Chg w F (fun b=>∃ i,i < H.length ∧ (nameOf R (nb + i)).bind m = some (some b)) w' F'):=by
 have hmc : ∀ g g',nameOf R g = some g' → (fun g=>(nameOf R g).bind m) g = m g':=fun g g' h=>by simp only [h,Option.bind_some]
 have hat : ∀ i g,R[i]? = some g → (nameOf R (nb + i)).bind m = m g:=fun i g h=>by rw [nameOf_at,h,Option.bind_some]
 have hnew : ∀ i g,H.length ≤ i → R[i]? = some g → m g = none:=fun i g hi hg=>by
  have:=hR.blks g (hc.ge g (List.mem_of_getElem? hg))
  rw [hc.new i g hi hg] at this
  exact this
 have hRi : ∀ i,i < H.length → ∃ g d,R[i]? = some g ∧ H[i]? = some d ∧ nb ≤ g ∧ d.isBlk = true ∧ τ g = d.ren R ∧ (τ g).isBlk = true:=fun i hi=>by
  have h1 : i < R.length:=by rw [hc.len]; have:=hc.le; omega
  have hg:=List.getElem?_eq_getElem h1
  have hd:=List.getElem?_eq_getElem hi
  obtain ⟨hb,ht⟩:=hc.old i _ _ hd hg
  exact ⟨_,_,hg,hd,hc.ge _ (List.mem_of_getElem? hg),hb,ht,by rw [ht,isBlk_ren]; exact hb⟩
 have hT : ∀ b,(∃ i,i < H.length ∧ (nameOf R (nb + i)).bind m = some (some b)) → ∃ i g,R[i]? = some g ∧ i < H.length ∧ nb ≤ g ∧ (τ g).isBlk = true ∧ m g = some (some b):=by
  rintro b ⟨i,hi,hm⟩
  obtain ⟨g,d,hg,_,hgn,_,_,hbl⟩:=hRi i hi
  exact ⟨i,g,hg,hi,hgn,hbl,by rw [← hat i g hg]; exact hm⟩
 refine (hdo w F (fun g=>(nameOf R g).bind m) xs hl hc.le hR.wf (fun i e x he hxe=>(hx i e x he hxe).unren hmc rfl) (fun i e he=>?_) (fun g hg=>?_) (fun i j b hi hj h1 h2=>?_)).mono ?_
 ·have hi : i < H.length:=(List.getElem?_eq_some_iff.1 he).1
  obtain ⟨g,d',hg,hd',hgn,hb,ht,_⟩:=hRi i hi
  obtain rfl : e = d':=by rw [he] at hd'; simpa using hd'
  have hblk:=hR.blks g hgn
  rw [ht] at hblk
  exact ⟨hb,hblk.unren hb hmc (hat i g hg)⟩
 ·cases hn : nameOf R g with
  | none=>rfl
  | some g'=>
   obtain ⟨h1,h2⟩:=nameOf_some hn
   exact hnew (g - nb) g' (by omega) h2
 ·obtain ⟨g,_,hg,_,hgn,_,_,hbl⟩:=hRi i hi
  obtain ⟨g',_,hg',_,hgn',_,_,hbl'⟩:=hRi j hj
  rw [hat i g hg] at h1
  rw [hat j g' hg'] at h2
  have e:=hR.inj g g' b hgn hgn' hbl hbl' h1 h2
  subst e
  exact (List.getElem?_inj (List.getElem?_eq_some_iff.1 hg).1 hc.nd).1 (hg.trans hg'.symm)
 ·rintro e w' ⟨x,F',mc,rfl,c,hwf,hkeep,hnone,hrx,hH,hinj,hown⟩
  have hlen:=hc.len
  have hzl : R.length = (H'.map (D.ren R)).length:=by rw [List.length_map]; exact hlen
  obtain ⟨hzin,hzout⟩:=put_zip hc.nd hzl τ
  -- a name of the call: its place
  have place : ∀ (g : Nat),g ∈ R → ∃ (i : Nat) (d' : D),R[i]? = some g ∧ H'[i]? = some d' ∧ Env.put (R.zip (H'.map (D.ren R))) τ g = d'.ren R:=fun g hg=>by
   obtain ⟨i,hi⟩:=List.mem_iff_getElem?.1 hg
   have h1 : i < H'.length:=by rw [← hlen]; exact (List.getElem?_eq_some_iff.1 hi).1
   have h2:=List.getElem?_eq_getElem h1
   exact ⟨i,_,hi,h2,hzin i g _ hi (by rw [List.getElem?_map,h2]; rfl)⟩
  have hmono : ∀ g p,m g = some p → afterN R mc m g = some p:=fun g p hg=>by
   by_cases hm : g ∈ R
   ·obtain ⟨i,hi⟩:=List.mem_iff_getElem?.1 hm
    rw [afterN_in hc.nd hi]
    by_cases hil : i < H.length
    ·rw [hkeep i hil]
     rw [hat i g hi]
     exact hg
    ·rw [hnew i g (by omega) hi] at hg; cases hg
   ·rw [afterN_out hm]; exact hg
  have hren : ∀ g p,mc g = some p → ∃ g',nameOf R g = some g' ∧ afterN R mc m g' = some p:=fun g p hg=>by
   have h1 : ¬ (g < nb ∨ nb + H'.length ≤ g):=fun h=>by rw [hnone g h] at hg; cases hg
   have h2 : g - nb < R.length:=by rw [hlen]; omega
   have h3:=List.getElem?_eq_getElem h2
   refine ⟨R[g - nb],?_,?_⟩
   ·unfold nameOf
    rw [if_neg (by omega)]
    exact h3
   ·rw [afterN_in hc.nd h3,show nb + (g - nb) = g by omega]
    exact hg
  have hlive : ∀ (i g : Nat) (d' : D),R[i]? = some g → H'[i]? = some d' → d'.isBlk = true → ∀ b,afterN R mc m g = some (some b) → (∃ j g',R[j]? = some g' ∧ j < H.length ∧ nb ≤ g' ∧ (τ g').isBlk = true ∧ m g' = some (some b)) ∨ w.heap.size ≤ b:=by
   intro i g d' hi hd' hb b hm
   rw [afterN_in hc.nd hi] at hm
   exact (hown i d' b hd' hb hm).imp (hT b) id
  have base : RelF G (Env.put (R.zip (H'.map (D.ren R))) τ) tm w' F' (afterN R mc m):=by
   refine ⟨hR.size,hR.nle,fun t ht=>?_,fun g hg=>?_,fun g1 g2 b hg1 hg2 hb1 hb2 hm1 hm2=>?_,hwf,hR.chg.trans c (fun b hb _=>?_),fun g b hg hb hm=>?_,fun i hi=>?_,hR.nlt,?_⟩
   ·rw [hzout t (fun h=>by have:=hc.ge t h; omega)]
    exact (hR.slots t ht).stable c hmono
   ·by_cases hm : g ∈ R
    ·obtain ⟨i,d',hi,hd',he⟩:=place g hm
     rw [he]
     exact (hH i d' hd').2.ren (hH i d' hd').1 hren (fun p hp=>by rw [afterN_in hc.nd hi]; exact hp)
    ·rw [hzout g hm]
     refine (hR.blks g hg).stable c hmono (fun e=>?_) (fun b hb hmg hTb=>?_)
     ·rw [afterN_out hm]; have:=hR.blks g hg; rw [e] at this; exact this
     ·obtain ⟨i,g',hi,_,hgn,hbl,hm'⟩:=hT b hTb
      exact hm (by rw [hR.inj g g' b hg hgn hb hbl hmg hm']; exact List.mem_of_getElem? hi)
   ·have mixed : ∀ g g',g ∈ R → g' ∉ R → nb ≤ g' → (Env.put (R.zip (H'.map (D.ren R))) τ g).isBlk = true → (Env.put (R.zip (H'.map (D.ren R))) τ g').isBlk = true → afterN R mc m g = some (some b) → afterN R mc m g' = some (some b) → False:=by
     intro g g' hg hg' hgn hb hb' hm hm'
     obtain ⟨i,d',hi,hd',he⟩:=place g hg
     rw [he,isBlk_ren] at hb
     rw [hzout g' hg'] at hb'
     rw [afterN_out hg'] at hm'
     rcases hlive i g d' hi hd' hb b hm with ⟨j,g'',hj,_,hgn'',hbl'',hm''⟩ | hle
     ·exact hg' (by rw [hR.inj g' g'' b hgn hgn'' hb' hbl'' hm' hm'']; exact List.mem_of_getElem? hj)
     ·have:=(hR.blks g' hgn).lt hb' hm'; omega
    by_cases h1 : g1 ∈ R
    ·by_cases h2 : g2 ∈ R
     ·obtain ⟨i,d1,hi,hd1,he1⟩:=place g1 h1
      obtain ⟨j,d2,hj,hd2,he2⟩:=place g2 h2
      rw [he1,isBlk_ren] at hb1
      rw [he2,isBlk_ren] at hb2
      rw [afterN_in hc.nd hi] at hm1
      rw [afterN_in hc.nd hj] at hm2
      have:=hinj i j b d1 d2 hd1 hd2 hb1 hb2 hm1 hm2
      subst this
      rw [hi] at hj
      simpa using hj
     ·exact (mixed g1 g2 h1 h2 hg2 hb1 hb2 hm1 hm2).elim
    ·by_cases h2 : g2 ∈ R
     ·exact (mixed g2 g1 h2 h1 hg1 hb2 hb1 hm2 hm1).elim
     ·rw [hzout g1 h1] at hb1
      rw [hzout g2 h2] at hb2
      rw [afterN_out h1] at hm1
      rw [afterN_out h2] at hm2
      exact hR.inj g1 g2 b hg1 hg2 hb1 hb2 hm1 hm2
   ·obtain ⟨i,g,_,_,hgn,hbl,hm⟩:=hT b hb
    exact (hR.own g b hgn hbl hm).resolve_right (by omega)
   ·by_cases hgR : g ∈ R
    ·obtain ⟨i,d',hi,hd',he⟩:=place g hgR
     rw [he,isBlk_ren] at hb
     rcases hlive i g d' hi hd' hb b hm with ⟨j,g'',_,_,hgn'',hbl'',hm''⟩ | hle
     ·exact hR.own g'' b hgn'' hbl'' hm''
     ·exact .inr (Nat.le_trans hR.chg.size hle)
    ·rw [hzout g hgR] at hb
     rw [afterN_out hgR] at hm
     exact hR.own g b hg hb hm
   ·obtain ⟨h1,h2⟩:=hR.par i hi
    by_cases hgR : nb + i ∈ R
    ·obtain ⟨j,d',hj,hd',he⟩:=place _ hgR
     refine ⟨?_,?_⟩
     ·rw [he]
      obtain ⟨hf,hblk⟩:=hH j d' hd'
      intro e'
      cases d' with
      | obj cs=>cases e'
      | row s es=>cases e'
      | any=>cases e'
      | free=>exact hf rfl
      | _=>exact hblk.elim
     ·rw [← h2,afterN_in hc.nd hj]
      by_cases hjl : j < H.length
      ·rw [hkeep j hjl]
       exact hat j _ hj
      ·exact absurd (hc.new j _ (by omega) hj) h1
    ·rw [hzout _ hgR,afterN_out hgR]
     exact ⟨h1,h2⟩
   ·refine hR.ext.step hR.blks c hwf (fun b hb=>?_) (fun l L e k he=>?_) (fun g b hg hb hm=>?_) (fun g hg=>afterN_out (fun hm=>by have:=hc.ge g hm; omega))
    ·obtain ⟨i,g,_,_,hgn,hbl,hm⟩:=hT b hb
     exact ⟨g,hgn,hbl,hm⟩
    ·rw [hzout gh (fun h=>by have h2:=hc.ge gh h; have h3 : (1000000 : Nat) ≤ 999999:=h2; omega)] at he
     exact he
    ·by_cases hgR : g ∈ R
     ·obtain ⟨i,d',hi,hd',he⟩:=place g hgR
      rw [he,isBlk_ren] at hb
      rcases hlive i g d' hi hd' hb b hm with ⟨j,g'',_,_,hgn'',hbl'',hm''⟩ | hle
      ·exact .inl ⟨g'',hgn'',hbl'',hm''⟩
      ·exact .inr hle
     ·rw [hzout g hgR] at hb
      rw [afterN_out hgR] at hm
      exact .inl ⟨g,hg,hb,hm⟩
  refine ⟨x,rfl,F',afterN R mc m,?_,hmono,c⟩
  unfold callU
  rw [Env.put_append]
  exact base.slot hd (hrx.ren hren)
theorem call_core (hR : RelF G τ tm w F m) {f : FuncId} {H ds H' : List D} {r : D} {R : List Nat} {xs : List Value} (hdo : Does P f H ds r H') (hc : CallOK τ R H H') (hl : xs.length = ds.length)
  (hx : ∀ (i : Nat) (d : D) (x : Value),ds[i]? = some d → xs[i]? = some x → Fz w F m (d.ren R) x) {d : Nat} (hd : d < G.n) :
  Calls P f xs.toArray w (fun e w'=>∃ v,e = .returned v ∧ ∃ F' m',RelF G (Env.put (callU R H' d r) τ) (tm.setIfInBounds d v) w' F' m'):=
 (call_coreX hR hdo hc hl hx hd).mono (by rintro e w' ⟨v,he,F',m',h,_,_⟩; exact ⟨v,he,F',m',h⟩)
theorem run_callFunc {f : FuncId} (h : enters P f = true) (args : Array Value) (w : World) : (callFunc f args).run P w = .ok (.enter f args) w:=by
 unfold enters at h
 cases hf : P.funcs[f]? with
 | none=>rw [hf] at h; cases h
 | some fn=>
  rw [hf] at h
  simp only [Bool.and_eq_true,bne_iff_ne,ne_eq] at h
  have h1 : ¬ fn.body = none:=by
   intro hb
   rw [hb] at h
   simp at h
  simp [callFunc,hf,h.2,h1]
def callE (rd R : List Nat) (d : Nat) : Ent:=⟨rd ++ R,R ++ [d]⟩
theorem ok_enter {f : FuncId} {H ds H' : List D} {r : D} {R : List Nat} (hdo : Does P f H ds r H') (hc : CallOK σ R H H') {d : Nat} (hdst : o.dst = some d) (hd : d < G.n) {rd : List Nat}
  (hrun : ∀ (τ : Env) (a : Act) (w : World) (F : Cells) (m : Names),(∀ t,t ∈ rd → τ t = σ t) → RelF G τ a.tmps w F m → ∃ xs : List Value,(execOp a.eval o).run P w = .ok (.enter f xs.toArray) w ∧
   xs.length = ds.length ∧ ∀ (i : Nat) (d : D) (x : Value),ds[i]? = some d → xs[i]? = some x → Fz w F m (d.ren R) x) :
  OpOK P G o (callE rd R d) σ (callU R H' d r) where
 wr p hp:=by
  rcases List.mem_append.1 hp with hp | hp
  ·obtain ⟨i,hi,_⟩:=zip_mem hp
   exact List.mem_append_left _ (List.mem_of_getElem? hi)
  ·obtain rfl:=List.mem_singleton.1 hp
   exact List.mem_append_right _ (List.mem_singleton.2 rfl)
 run τ a w K Q hag hR hK:=by
  obtain ⟨hdf,F,m,hR⟩:=hR
  obtain ⟨xs,hr,hl,hf⟩:=hrun τ a w F m (fun t ht=>hag t (List.mem_append_left _ ht)) hR
  have hgσ : ∀ g,g ∈ R → τ g = σ g:=fun g hg=>hag g (List.mem_append_right _ hg)
  have hc' : CallOK τ R H H':=⟨hc.len,hc.le,hc.nd,hc.ge,fun i d g h1 h2=>by rw [hgσ g (List.mem_of_getElem? h2)]; exact hc.old i d g h1 h2,fun i g h1 h2=>by rw [hgσ g (List.mem_of_getElem? h2)]; exact hc.new i g h1 h2⟩
  have hcc:=call_core hR hdo hc' hl hf hd
  intro n
  have hs:=sem_at hr (fun d e=>by cases e) G.fen
  refine ⟨fun _ _=>trivial,?_⟩
  rw [hs,hr]
  rw [Oper.uponIn_enter]
  refine ⟨fun h=>(by cases h),?_⟩
  have hcc' : CallsIn Fence.wide (n - 1) P f xs.toArray w _:=callsIn_wide.2 hcc
  refine CallsIn.mono (F:=G.fen) (show CallsIn G.fen (n - 1) P f xs.toArray w _ from hcc') ?_
  rintro e w' ⟨v,rfl,F',m',hR'⟩
  refine hK _ _ ⟨?_,F',m',?_⟩
  ·rw [hdst]; exact hdf
  ·rw [hdst]; exact hR'
theorem args_fz {R : List Nat} {ds : List D} {xs : List Value} {vs : List D} (h : vs = ds.map (D.ren R)) (hf : xs.length = vs.length ∧ ∀ (i : Nat) (d : D) (x : Value),vs[i]? = some d → xs[i]? = some x → Fz w F m d x) :
  xs.length = ds.length ∧ ∀ (i : Nat) (d : D) (x : Value),ds[i]? = some d → xs[i]? = some x → Fz w F m (d.ren R) x:=by
 subst h
 refine ⟨by rw [hf.1,List.length_map],fun i d x hd hx=>hf.2 i _ x (by rw [List.getElem?_map,hd]; rfl) hx⟩
theorem in_call {d f : Nat} {xs : List Opd} {ops : Array Operand} {ts : Array TypeId} (ho : o.op = .call { callee:=.value (.func f),args:=ops,argTypes:=ts }) (hf : enters P f = true) (ha : ops.toList.mapM opd = some xs)
  (hdst : o.dst = some d) (hd : d < G.n) {H ds H' : List D} {r : D} {R : List Nat} (hdo : Does P f H ds r H') (hc : CallOK σ R H H') (hds : xs.map (Opd.val σ) = ds.map (D.ren R)) :
  OpOK P G o (callE (xs.flatMap Opd.rd) R d) σ (callU R H' d r):=by
 refine ok_enter hdo hc hdst hd (fun τ a w F m hag hR=>⟨ops.toList.map a.eval,?_,args_fz hds (opds_fz hR ha hag)⟩)
 have hc:=run_callFunc (P:=P) hf (ops.map a.eval) w
 have e1 : (ops.toList.map a.eval).toArray = ops.map a.eval:=by
  apply Array.ext'
  simp
 rw [e1]
 simp [execOp,ho,resolve,Act.eval,Deferred.ofValue,invoke]
 exact hc
theorem in_cal {d f : Nat} {x : Operand} {X : Opd} {xs : List Opd} {ops : Array Operand} {ts : Array TypeId} (ho : o.op = .call { callee:=.value x,args:=ops,argTypes:=ts }) (hx : opd x = some X) (ha : ops.toList.mapM opd = some xs)
  (hdst : o.dst = some d) (hd : d < G.n) {cs : List D} (hv : X.val σ = .fn f cs) (hf : enters P f = true) {H ds H' : List D} {r : D} {R : List Nat} (hdo : Does P f H ds r H') (hc : CallOK σ R H H') (hds : xs.map (Opd.val σ) ++ cs = ds.map (D.ren R)) :
  OpOK P G o (callE (X.rd ++ xs.flatMap Opd.rd) R d) σ (callU R H' d r):=by
 refine ok_enter hdo hc hdst hd (fun τ a w F m hag hR=>?_)
 have hso:=opd_fz hR hx (fun t ht=>hag t (List.mem_append_left _ ht))
 rw [hv] at hso
 have hex : ∃ us : List Value,a.eval x = .func (.func f) #[] us.toArray ∧ us.length = cs.length ∧ ∀ (i : Nat) (d : D) (u : Value),cs[i]? = some d → us[i]? = some u → Fz w F m d u:=by
  generalize a.eval x = y at hso
  cases hso with
  | fn _ f cs us hl hr=>exact ⟨us,rfl,hl,hr⟩
 obtain ⟨us,hxe,hl,hr⟩:=hex
 obtain ⟨h1,h2⟩:=opds_fz hR ha (fun t ht=>hag t (List.mem_append_right _ ht))
 refine ⟨ops.toList.map a.eval ++ us,?_,args_fz hds ⟨by rw [List.length_append,List.length_append,h1,hl],fun i d u hd hu=>?_⟩⟩
 ·have hc:=run_callFunc (P:=P) hf (ops.map a.eval ++ us.toArray) w
  have e1 : (ops.toList.map a.eval ++ us).toArray = ops.map a.eval ++ us.toArray:=by
   apply Array.ext'
   simp
  rw [e1]
  simp [execOp,ho,resolve,hxe,Deferred.ofValue,invoke]
  exact hc
 ·by_cases hi : i < (xs.map (Opd.val σ)).length
  ·rw [List.getElem?_append_left hi] at hd
   rw [List.getElem?_append_left (by rw [h1]; exact hi)] at hu
   exact h2 i d u hd hu
  ·rw [List.getElem?_append_right (by omega)] at hd
   rw [List.getElem?_append_right (by rw [h1]; omega),h1] at hu
   exact hr _ d u hd hu
def MethAt (P : Program) (t : TypeId) (name : String) (e : D) (f : FuncId) (e' : D) : Prop:=
 enters P f = true ∧ ∀ (w : World) (F : Cells) (m : Names) (v : Value),Fz w F m e v → ∃ v' : Value,(∀ n : Nat,(method (n + 1) t v name).run P w = .ok (f,v') w) ∧ Fz w F m e' v'
theorem in_inv {d f t : Nat} {x : Operand} {X : Opd} {name : String} {xs : List Opd} {ops : Array Operand} {ts : Array TypeId} (ho : o.op = .call { callee:=.invoke x name,args:=ops,argTypes:=ts }) (hx : opd x = some X) (ha : ops.toList.mapM opd = some xs)
  (hdst : o.dst = some d) (hd : d < G.n) {e e' : D} (hv : X.val σ = .ifc t e) (hm : MethAt P t name e f e') {H ds H' : List D} {r : D} {R : List Nat} (hdo : Does P f H ds r H') (hc : CallOK σ R H H') (hds : e' :: xs.map (Opd.val σ) = ds.map (D.ren R)) :
  OpOK P G o (callE (X.rd ++ xs.flatMap Opd.rd) R d) σ (callU R H' d r):=by
 refine ok_enter hdo hc hdst hd (fun τ a w F m hag hR=>?_)
 have hso:=opd_fz hR hx (fun t ht=>hag t (List.mem_append_left _ ht))
 rw [hv] at hso
 have hex : ∃ v : Value,a.eval x = .iface t v ∧ Fz w F m e v:=by
  generalize a.eval x = y at hso
  cases hso with
  | ifc _ t e v hv=>exact ⟨v,rfl,hv⟩
 obtain ⟨v,hxe,hve0⟩:=hex
 obtain ⟨h2,hall⟩:=hm
 obtain ⟨v',hrun,hve⟩:=hall w F m v hve0
 obtain ⟨g1,g2⟩:=opds_fz hR ha (fun t ht=>hag t (List.mem_append_right _ ht))
 refine ⟨v' :: ops.toList.map a.eval,?_,args_fz hds ⟨by rw [List.length_cons,List.length_cons,g1],fun i d u hd hu=>?_⟩⟩
 ·have hfu : P.types.size + Made.depth = (P.types.size + 99) + 1:=rfl
  have h1:=hrun (P.types.size + 99)
  have hc:=run_callFunc (P:=P) h2 (#[v'] ++ ops.map a.eval) w
  have e1 : (v' :: ops.toList.map a.eval).toArray = #[v'] ++ ops.map a.eval:=by
   apply Array.ext'
   simp
  have e2 : (#[Value.iface t v] ++ ops.map a.eval).extract 1 (ops.size + 1) = ops.map a.eval:=by
   apply Array.ext'
   simp [List.take_of_length_le]
  rw [e1]
  simp only [execOp,ho,resolve,Sem.run_bind,Sem.run_pure,Result.andThen_ok,invoke,hxe]
  have e3 : (#[Value.iface t v] ++ ops.map a.eval)[0]? = some (.iface t v):=by rw [Array.getElem?_append_left (by simp)]; rfl
  rw [e3]
  have e4 : (#[Value.iface t v] ++ ops.map a.eval).size = ops.size + 1:=by rw [Array.size_append,Array.size_map]; exact Nat.add_comm _ _
  rw [e4,e2]
  simp only [callMethod,Sem.run_bind,run_program,Result.andThen_ok,hfu,h1,hc]
 ·cases i with
  | zero=>
   obtain rfl : e' = d:=by simpa using hd
   obtain rfl : v' = u:=by simpa using hu
   exact hve
  | succ i=>exact g2 i d u (by simpa using hd) (by simpa using hu)
theorem in_calb {d f t : Nat} {x : Operand} {X : Opd} {name : String} {xs : List Opd} {ops : Array Operand} {ts : Array TypeId} (ho : o.op = .call { callee:=.value x,args:=ops,argTypes:=ts }) (hx : opd x = some X) (ha : ops.toList.mapM opd = some xs)
  (hdst : o.dst = some d) (hd : d < G.n) {e e' : D} (hv : X.val σ = .bnd t name e) (hm : MethAt P t name e f e') {H ds H' : List D} {r : D} {R : List Nat} (hdo : Does P f H ds r H') (hc : CallOK σ R H H') (hds : e' :: xs.map (Opd.val σ) = ds.map (D.ren R)) :
  OpOK P G o (callE (X.rd ++ xs.flatMap Opd.rd) R d) σ (callU R H' d r):=by
 refine ok_enter hdo hc hdst hd (fun τ a w F m hag hR=>?_)
 have hso:=opd_fz hR hx (fun t ht=>hag t (List.mem_append_left _ ht))
 rw [hv] at hso
 have hex : ∃ v : Value,a.eval x = .func (.method name) #[.iface t v] #[] ∧ Fz w F m e v:=by
  generalize a.eval x = y at hso
  cases hso with
  | bnd _ t name e v hv=>exact ⟨v,rfl,hv⟩
 obtain ⟨v,hxe,hve0⟩:=hex
 obtain ⟨h2,hall⟩:=hm
 obtain ⟨v',hrun,hve⟩:=hall w F m v hve0
 obtain ⟨g1,g2⟩:=opds_fz hR ha (fun t ht=>hag t (List.mem_append_right _ ht))
 refine ⟨v' :: ops.toList.map a.eval,?_,args_fz hds ⟨by rw [List.length_cons,List.length_cons,g1],fun i d u hd hu=>?_⟩⟩
 ·have hfu : P.types.size + Made.depth = (P.types.size + 99) + 1:=rfl
  have h1:=hrun (P.types.size + 99)
  have hc:=run_callFunc (P:=P) h2 (#[v'] ++ ops.map a.eval) w
  have e1 : (v' :: ops.toList.map a.eval).toArray = #[v'] ++ ops.map a.eval:=by
   apply Array.ext'
   simp
  have e2 : (#[Value.iface t v] ++ ops.map a.eval).extract 1 (ops.size + 1) = ops.map a.eval:=by
   apply Array.ext'
   simp [List.take_of_length_le]
  rw [e1]
  simp only [execOp,ho,resolve,Sem.run_bind,Sem.run_pure,Result.andThen_ok,Deferred.ofValue,invoke,hxe]
  have e3 : (#[Value.iface t v] ++ ops.map a.eval)[0]? = some (.iface t v):=by rw [Array.getElem?_append_left (by simp)]; rfl
  rw [e3]
  have e4 : (#[Value.iface t v] ++ ops.map a.eval).size = ops.size + 1:=by rw [Array.size_append,Array.size_map]; exact Nat.add_comm _ _
  rw [e4,e2]
  simp only [callMethod,Sem.run_bind,run_program,Result.andThen_ok,hfu,h1,hc]
 ·cases i with
  | zero=>
   obtain rfl : e' = d:=by simpa using hd
   obtain rfl : v' = u:=by simpa using hu
   exact hve
  | succ i=>exact g2 i d u (by simpa using hd) (by simpa using hu)
theorem in_calm {d f : Nat} {x : Operand} {X : Opd} {xs : List Opd} {ops : Array Operand} {ts : Array TypeId} (ho : o.op = .call { callee:=.value x,args:=ops,argTypes:=ts }) (hx : opd x = some X) (ha : ops.toList.mapM opd = some xs)
  (hdst : o.dst = some d) (hd : d < G.n) {e : D} (hv : X.val σ = .mv f e) (hf : enters P f = true) {H ds H' : List D} {r : D} {R : List Nat} (hdo : Does P f H ds r H') (hc : CallOK σ R H H') (hds : e :: xs.map (Opd.val σ) = ds.map (D.ren R)) :
  OpOK P G o (callE (X.rd ++ xs.flatMap Opd.rd) R d) σ (callU R H' d r):=by
 refine ok_enter hdo hc hdst hd (fun τ a w F m hag hR=>?_)
 have hso:=opd_fz hR hx (fun t ht=>hag t (List.mem_append_left _ ht))
 rw [hv] at hso
 have hex : ∃ v : Value,a.eval x = .func (.func f) #[v] #[] ∧ Fz w F m e v:=by
  generalize a.eval x = y at hso
  cases hso with
  | mv _ _ _ v hv=>exact ⟨v,rfl,hv⟩
 obtain ⟨v,hxe,hve⟩:=hex
 obtain ⟨g1,g2⟩:=opds_fz hR ha (fun t ht=>hag t (List.mem_append_right _ ht))
 refine ⟨v :: ops.toList.map a.eval,?_,args_fz hds ⟨by rw [List.length_cons,List.length_cons,g1],fun i d u hd hu=>?_⟩⟩
 ·have hc:=run_callFunc (P:=P) hf (#[v] ++ ops.map a.eval) w
  have e1 : (v :: ops.toList.map a.eval).toArray = #[v] ++ ops.map a.eval:=by
   apply Array.ext'
   simp
  rw [e1]
  simp only [execOp,ho,resolve,Sem.run_bind,Sem.run_pure,Result.andThen_ok,Deferred.ofValue,invoke,hxe,Array.append_empty,hc]
 ·cases i with
  | zero=>
   obtain rfl : e = d:=by simpa using hd
   obtain rfl : v = u:=by simpa using hu
   exact hve
  | succ i=>exact g2 i d u (by simpa using hd) (by simpa using hu)
end
end
end Go.Proofs.Ytclkehekhdfnnaa
