/-
  How the program's code is read as code on plain data. Definitions, and that each operation read is what it says. Rows of one's own that stand still from now on; names told anew. How both keep what is known of a call under way. Regions on plain data: instructions with their guards, one after the other; a region of the program, in whatever order, does what they say. Code on plain data: what a piece of code asks of the slots and leaves in them; a piece of the program's code does what its reading says; a function does what its code says. Code on plain data, step by step. No condition.
-/
import Derived.Test.YtclkehekhdfnnaaSVSnd
import Derived.LoopN
import Derived.Scope
namespace Go.Proofs.Ytclkehekhdfnnaa
section
open Go.RowKit
def oif {α : Type} (c : Bool) (x : Option α) : Option α:=if c then x else none
theorem oif_some {α : Type} {c : Bool} {x : Option α} {y : α} : oif c x = some y ↔ c = true ∧ x = some y:=by
 unfold oif
 cases c <;> simp
def tmpOf : Operand → Option Nat
 | .tmp t=>if t < nb then some t else none
 | _=>none
theorem tmpOf_some {x : Operand} {t : Nat} (h : tmpOf x = some t) : x = .tmp t ∧ t < nb:=by
 cases x with
 | tmp u=>
  have h' : (if u < nb then some u else none) = some t:=h
  split at h'
  ·obtain rfl : u = t:=by simpa using h'
   exact ⟨rfl,‹_›⟩
  ·cases h'
 | _=>cases h
def sliceElem (P : Program) (t : TypeId) : Option TypeId:=
 match P.underlying t with
 | some (.slice e)=>some e
 | _=>none
theorem sliceElem_some {P : Program} {t e : TypeId} (h : sliceElem P t = some e) : P.underlying t = some (.slice e):=by
 unfold sliceElem at h
 split at h
 ·rename_i e' he
  obtain rfl : e' = e:=by simpa using h
  exact he
 ·cases h
def isString (P : Program) (t : TypeId) : Bool:=
 match P.underlying t with
 | some .string=>true
 | _=>false
theorem isString_some {P : Program} {t : TypeId} (h : isString P t = true) : P.underlying t = some .string:=by
 unfold isString at h
 split at h
 ·assumption
 ·cases h
def isBool (P : Program) (t : TypeId) : Bool:=
 match P.underlying t with
 | some .bool=>true
 | _=>false
theorem isBool_some {P : Program} {t : TypeId} (h : isBool P t = true) : P.underlying t = some .bool:=by
 unfold isBool at h
 split at h
 ·assumption
 ·cases h
def isStruct (P : Program) (t : TypeId) : Bool:=
 match P.underlying t with
 | some (.struct _)=>true
 | _=>false
def intKind (P : Program) (t : TypeId) : Option IntKind:=
 match P.underlying t with
 | some (.int k)=>some k
 | _=>none
theorem intKind_some {P : Program} {t : TypeId} {k : IntKind} (h : intKind P t = some k) : P.underlying t = some (.int k):=by
 unfold intKind at h
 split at h
 ·rename_i k' hk
  obtain rfl : k' = k:=by simpa using h
  exact hk
 ·cases h
def arrayOf (P : Program) (t : TypeId) : Option (Nat × TypeId):=
 match P.underlying t with
 | some (.array n e)=>some (n,e)
 | _=>none
theorem arrayOf_some {P : Program} {t n e : Nat} (h : arrayOf P t = some (n,e)) : P.underlying t = some (.array n e):=by
 unfold arrayOf at h
 split at h
 ·rename_i n' e' hn
  obtain ⟨rfl,rfl⟩ : n' = n ∧ e' = e:=by simpa using h
  exact hn
 ·cases h
def concrete' (P : Program) (t : TypeId) : Bool:=
 match P.underlying t with
 | some (.interface _)=>false
 | some _=>true
 | none=>false
def partSize (P : Program) (T : TypeId) (i : Nat) : Option (Option Nat):=
 match P.underlying T with
 | some (.struct fields)=>match fields[i]? with
  | some f=>szOf P f.type
  | none=>none
 | some (.array _ e)=>szOf P e
 | _=>none
def cparts (P : Program) (T : TypeId) (place : Nat → Option (Nat × Nat)) : List (Nat × Operand) → Option (List (Nat × Option Nat × Opd))
 | []=>some []
 | (i,x) :: l=>(place i).bind fun p=>(partSize P T i).bind fun n=>(opd x).bind fun X=>oif (p.2 == n.getD 1) ((cparts P T place l).bind fun m=>some ((p.1,n,X) :: m))
theorem cparts_ok {P : Program} {T : TypeId} {place : Nat → Option (Nat × Nat)} : ∀ {l : List (Nat × Operand)} {m : List (Nat × Option Nat × Opd)},cparts P T place l = some m → Parts place l m
 | [],m,h=>by
  obtain rfl : [] = m:=by simpa [cparts] using h
  exact .nil
 | (i,x) :: l,m,h=>by
  simp only [cparts,Option.bind_eq_some_iff,oif_some,Option.some.injEq,beq_iff_eq] at h
  obtain ⟨p,hp,n,_,X,hX,he,m',hm,rfl⟩:=h
  exact .cons i p.1 n x X l m' (by rw [hp,← he]) hX (cparts_ok hm)
def celems : List (Nat × Operand) → Option (List (Nat × Opd))
 | []=>some []
 | (i,x) :: l=>(opd x).bind fun X=>(celems l).bind fun m=>some ((i,X) :: m)
theorem celems_ok : ∀ {l : List (Nat × Operand)} {m : List (Nat × Opd)},celems l = some m → Elems l m
 | [],m,h=>by
  obtain rfl : [] = m:=by simpa [celems] using h
  exact .nil
 | (i,x) :: l,m,h=>by
  simp only [celems,Option.bind_eq_some_iff,Option.some.injEq] at h
  obtain ⟨X,hX,m',hm,rfl⟩:=h
  exact .cons i x X l m' hX (celems_ok hm)
def cbound : Option Operand → Option (Option Opd)
 | none=>some none
 | some x=>(opd x).bind fun X=>some (some X)
theorem cbound_ok {x : Option Operand} {X : Option Opd} (h : cbound x = some X) : Bound x X:=by
 cases x with
 | none=>
  obtain rfl : none = X:=by simpa [cbound] using h
  exact .none
 | some x=>
  simp only [cbound,Option.bind_eq_some_iff,Option.some.injEq] at h
  obtain ⟨Y,hY,rfl⟩:=h
  exact .some x Y hY
def sameOpd : Operand → Operand → Bool
 | .tmp a,.tmp b=>a == b
 | .const (.int j a),.const (.int k b)=>j == k && a == b
 | _,_=>false
theorem sameOpd_eq {x y : Operand} (h : sameOpd x y = true) : x = y := by
  cases x with
  | tmp a => cases y <;> simp_all [sameOpd]
  | const a => cases a <;> cases y <;> first | (simp [sameOpd] at h; done) | skip
               rename_i b
               cases b <;> simp_all [sameOpd]
  | _ => cases y <;> simp [sameOpd] at h
def isEql : BinOp → Bool
 | .eql=>true
 | _=>false
theorem isEql_eq {op : BinOp} (h : isEql op = true) : op = .eql:=by cases op <;> first | rfl | cases h
def isNeq : BinOp → Bool
 | .neq=>true
 | _=>false
theorem isNeq_eq {op : BinOp} (h : isNeq op = true) : op = .neq:=by cases op <;> first | rfl | cases h
def isNilC : Operand → Bool
 | .const (.slice none 0 0)=>true
 | _=>false
theorem isNilC_eq {y : Operand} (h : isNilC y = true) : y = .const (.slice none 0 0):=by
 unfold isNilC at h
 split at h
 ·rfl
 ·cases h
def isMm : Builtin → Option Bool
 | .max=>some true
 | .min=>some false
 | _=>none
theorem isMm_eq {b : Builtin} {mx : Bool} (h : isMm b = some mx) : b = if mx then .max else .min:=by
 cases b <;> first | (cases h; rfl) | (cases h; done)
abbrev nm (d : Nat) : Nat:=2000000 + d
def copD (P : Program) (xo : List Nat) (o : Oper) (d : Nat) : Option In:=
 match o.op with
 | .move x=>(opd x).bind fun X=>some (.mov d X)
 | .assign x=>(opd x).bind fun X=>some (.mov d X)
 | .pick c x y=>(opd c).bind fun C=>(opd x).bind fun X=>(opd y).bind fun Y=>some (.pick d C X Y)
 | .binOp op t x y _=>if isNilC y && (sliceElem P t).isSome && (isEql op || isNeq op) then (opd x).bind fun X=>some (.isn d (isNeq op) X) else (opd x).bind fun X=>(opd y).bind fun Y=>
  if isEql op && isBool P t then some (.beq d false X Y) else if isNeq op && isBool P t then some (.beq d true X Y)
  else if isEql op && isStruct P t then (flatType P t).bind fun ks=>some (.eqs d false ks X Y)
  else if isNeq op && isStruct P t then (flatType P t).bind fun ks=>some (.eqs d true ks X Y)
  else some (.bin d op X Y)
 | .unOp op _ x=>(opd x).bind fun X=>some (.un d op X)
 | .convert t u x=>(opd x).bind fun X=>(intKind P u).bind fun k=>oif (P.underlying t).isSome (some (.cvt d k X))
 | .alloc T=>(zsOf P T).bind fun zs=>some (.alloc d (nm d) zs)
 | .box T x=>(opd x).bind fun X=>(szOf P T).bind fun n=>some (.box d (nm d) X n)
 | .build T ps=>(zsOf P T).bind fun zs=>(placeOf P T).bind fun place=>(cparts P T place ps.toList).bind fun qs=>some (.build d zs qs)
 | .buildSlice T m ps=>(sliceElem P T).bind fun e=>(szOf P e).bind fun n=>(zsOf P e).bind fun zs=>(celems ps.toList).bind fun qs=>
  oif (decide (0 < n.getD 1) && (zs.length == n.getD 1) && decide (m * n.getD 1 ≤ 2 ^ 24)) (if m == 0 && qs.isEmpty then some (.mov d (.k .nul)) else
   if xo.contains d then some (.bslx d (nm d) (n.getD 1) n (List.replicate m (zeroElem n zs)) qs) else some (.bsl d (n.getD 1) n (List.replicate m (zeroElem n zs)) qs))
 | .load T x=>(tmpOf x).bind fun s=>(szOf P T).bind fun n=>some (.lod d s n)
 | .fieldAddr S x f=>(tmpOf x).bind fun s=>(fldOf P S f).bind fun q=>some (.fad d s q.1)
 | .indexAddr T x i=>(tmpOf x).bind fun s=>(opd i).bind fun I=>match arrayOf P T with
  | some (m,e)=>(szOf P e).bind fun n=>some (.iaa d s I m (n.getD 1))
  | none=>(sliceElem P T).bind fun e=>(szOf P e).bind fun n=>some (.iad d s I (n.getD 1))
 | .field T x f=>(opd x).bind fun X=>(fldOf P T f).bind fun q=>some (.fld d X q.1 q.2)
 | .extract x i=>(tmpOf x).bind fun s=>some (.ext d s i)
 | .index T x i=>(opd x).bind fun X=>(opd i).bind fun I=>match arrayOf P T with
  | some (m,e)=>(szOf P e).bind fun n=>some (.ida d X I m (n.getD 1) n)
  | none=>oif (isString P T) (some (.idx d X I))
 | .slice T x lo hi none=>(opd x).bind fun X=>(cbound lo).bind fun L=>(cbound hi).bind fun H=>
  if isString P T then some (.slcs d X L H) else (sliceElem P T).bind fun e=>(szOf P e).bind fun n=>some (.slc d X L H (n.getD 1))
 | .makeSlice T x y=>(sliceElem P T).bind fun e=>(szOf P e).bind fun n=>(zsOf P e).bind fun zs=>(P.info? e).bind fun i=>(opd x).bind fun X=>
  oif (sameOpd x y && decide (0 < n.getD 1) && (zs.length == n.getD 1)) (some (.mks d (nm d) X (n.getD 1) i.bytes (zeroElem n zs)))
 | .makeInterface T x=>(opd x).bind fun X=>oif (concrete' P T) (some (.ifc d T X))
 | .makeFunc (.method name) first xs=>match first.toList with
  | [x]=>(opd x).bind fun X=>oif xs.isEmpty (some (.mkb d name X))
  | _=>none
 | .makeFunc (.func f) first xs=>match first.toList with
  | [x]=>(opd x).bind fun X=>oif xs.isEmpty (some (.mkm d f X))
  | _=>(xs.toList.mapM opd).bind fun Xs=>oif first.isEmpty (some (.mkf d f Xs))
 | .nilCheck x=>(tmpOf x).bind fun s=>some (.nilc d s)
 | .call { callee:=.builtin .len,args,argTypes }=>match args.toList,argTypes.toList with
  | [x],[T]=>(opd x).bind fun X=>if isString P T then some (.lens d X) else (sliceElem P T).bind fun _=>some (.len d X)
  | _,_=>none
 | .call { callee:=.builtin .append,args,argTypes }=>match args.toList,argTypes.toList with
  | [x,y],[T,U]=>(opd x).bind fun X=>(opd y).bind fun Y=>(sliceElem P T).bind fun e=>(szOf P e).bind fun n=>(zsOf P e).bind fun zs=>(P.info? e).bind fun i=>
   if T == U then oif (decide (0 < n.getD 1) && (zs.length == n.getD 1)) (some (.app d (nm d) X Y (n.getD 1) i.bytes))
   else oif (decide (0 < n.getD 1) && (zs.length == n.getD 1) && (intKind P U).isSome) (some (.apm d (nm d) X Y (n.getD 1) i.bytes (zeroElem n zs)))
  | _,_=>none
 | .call { callee:=.builtin .copy,args,argTypes }=>match args.toList,argTypes.toList with
  | [x,y],[T,U]=>(opd x).bind fun X=>(opd y).bind fun Y=>(sliceElem P T).bind fun e=>(szOf P e).bind fun n=>oif (decide (0 < n.getD 1) && (T == U)) (some (.cpy d X Y (n.getD 1)))
  | _,_=>none
 | .call { callee:=.builtin .cap,args,argTypes }=>match args.toList,argTypes.toList with
  | [x],[T]=>(opd x).bind fun X=>oif (sliceElem P T).isSome (some (.capn d X))
  | _,_=>none
 | .call { callee:=.builtin .clear,args,argTypes }=>match args.toList,argTypes.toList with
  | [x],[T]=>(opd x).bind fun X=>(sliceElem P T).bind fun e=>(szOf P e).bind fun n=>(zsOf P e).bind fun zs=>oif (decide (0 < n.getD 1) && (zs.length == n.getD 1)) (some (.clr (some d) X (n.getD 1) (zeroElem n zs)))
  | _,_=>none
 | .call { callee:=.builtin b,args,argTypes:=_ }=>match args.toList with
  | [x,y]=>(isMm b).bind fun mx=>(opd x).bind fun X=>(opd y).bind fun Y=>some (.mm d mx X Y)
  | _=>none
 | _=>none
def ccall (P : Program) (o : Oper) (d : Nat) : Option In:=
 match o.op with
 | .call { callee:=.value (.func f),args,argTypes:=_ }=>(args.toList.mapM opd).bind fun xs=>oif (enters P f) (some (.call d f xs))
 | .call { callee:=.value x,args,argTypes:=_ }=>(opd x).bind fun X=>(args.toList.mapM opd).bind fun xs=>some (.cal d X xs)
 | .call { callee:=.invoke x name,args,argTypes:=_ }=>(opd x).bind fun X=>(args.toList.mapM opd).bind fun xs=>some (.inv d X name xs)
 | _=>none
def cop (P : Program) (N : Nat) (xo : List Nat) (o : Oper) : Option In:=
 match o.dst with
 | some d=>oif (decide (d < N)) (copD P xo o d)
 | none=>match o.op with
  | .store T s x=>(tmpOf s).bind fun s=>(szOf P T).bind fun n=>(opd x).bind fun X=>oif (decide (0 < n.getD 1)) (some (.sto s X n))
  | .call { callee:=.builtin .clear,args,argTypes }=>match args.toList,argTypes.toList with
   | [x],[T]=>(opd x).bind fun X=>(sliceElem P T).bind fun e=>(szOf P e).bind fun n=>(zsOf P e).bind fun zs=>oif (decide (0 < n.getD 1) && (zs.length == n.getD 1)) (some (.clr none X (n.getD 1) (zeroElem n zs)))
   | _,_=>none
  | _=>none
section
variable {P : Program} {G : Ctx} {σ : Env} {xo : List Nat} {o : Oper} {d : Nat} {ins : In}
theorem in_bsl0 {T e k : Nat} {n : Option Nat} {zs : List D} {ps : Array (Nat × Operand)} {qs : List (Nat × Opd)} (ho : o.op = .buildSlice T k ps) (hT : P.underlying T = some (.slice e)) (hsz : szOf P e = some n) (h0 : 0 < n.getD 1)
  (hz : zsOf P e = some zs) (hn : zs.length = n.getD 1) (hq : Elems ps.toList qs) (hk : k = 0) (hqs : qs = []) (hdst : o.dst = some d) (hd : d < G.n) : OpOK P G o (In.ent σ (.mov d (.k .nul))) σ (In.upd σ (.mov d (.k .nul))):=by
 subst hk hqs
 refine .of_run (fun p hp=>?_) (fun τ a w F m hag hR=>?_)
 ·obtain rfl:=List.mem_singleton.1 hp; exact List.mem_singleton.2 rfl
 ·obtain ⟨ys,hrun,_⟩:=run_bsl (σ:=σ) ho hT hsz h0 hz hn (by omega) hq hR (fun t ht=>by cases ht) trivial
  have hR1 : RelF G τ a.tmps (w.alloc (.cells ys.toArray e)) F m:=
   have c:=Chg.alloc0 hR.wf (.cells ys.toArray e)
   ⟨hR.size,hR.nle,fun t ht=>(hR.slots t ht).still c,fun g hg=>(hR.blks g hg).stable c (fun _ _ h=>h) (fun e=>by have:=hR.blks g hg; rw [e] at this; exact this) (fun _ _ _=>id),hR.inj,wf_alloc hR.wf _,hR.chg.trans c (fun _ h=>h.elim),hR.own,hR.par,hR.nlt,
    hR.ext.step hR.blks c (wf_alloc hR.wf _) (fun _ hb=>hb.elim) (fun _ _ _ _ h=>h) (fun g b h1 h2 h3=>.inl ⟨g,h1,h2,h3⟩)⟩
  refine ⟨_,_,_,F,m,hrun,.inl rfl,?_⟩
  rw [hdst]
  exact hR1.slot hd (.nul m _)
def NilFree (P : Program) (t : TypeId) (name : String) : Prop:=∀ (v : Value) (w : World),(nilAhead (P.types.size + Made.depth) t v name).run P w = .ok (some false) w
def NilAt (P : Program) (t : TypeId) (name : String) (e : D) : Prop:=∀ (w : World) (F : Cells) (m : Names) (v : Value),Fz w F m e v → (nilAhead (P.types.size + Made.depth) t v name).run P w = .ok (some false) w
theorem NilFree.at {P : Program} {t : TypeId} {name : String} (h : NilFree P t name) (e : D) : NilAt P t name e:=fun w _ _ v _=>h v w
def In.okP (P : Program) (σ : Env) : In → Prop
 | .nilc d s=>In.ok σ (.nilc d s) ∨ ∃ t name e,σ s = .bnd t name e ∧ NilAt P t name e
 | ins=>In.ok σ ins
theorem In.ok_okP {P : Program} {σ : Env} {ins : In} (h : ins.ok σ) : ins.okP P σ:=by
 cases ins <;> first | exact h | exact Or.inl h
theorem in_nilb {d s : Nat} (ho : o.op = .nilCheck (.tmp s)) (hs : s < nb) (hdst : o.dst = some d) (hd : d < G.n) {t : TypeId} {name : String} {e : D} (hv : σ s = .bnd t name e) (hn : NilAt P t name e) : OpOK P G o (In.ent σ (.nilc d s)) σ (In.upd σ (.nilc d s)):=by
 simp only [In.upd]
 refine .pure hdst hd (fun τ a w F m hag hR=>?_)
 have h1:=hR.slots s hs
 rw [hag s (List.mem_singleton.2 rfl)] at h1
 have hx : a.eval (.tmp s) = a.tmps.getD s undef:=rfl
 refine ⟨a.tmps.getD s undef,?_,h1⟩
 generalize hy : a.tmps.getD s undef = x at h1
 rw [hy] at hx
 rw [hv] at h1
 cases h1 with
 | bnd _ _ _ _ y h=>
  have:=hn w F m y h
  simp [execOp,ho,hx,this]
theorem copD_ok (h : copD P xo o d = some ins) (hdst : o.dst = some d) (hd : d < G.n) (hok : ins.okP P σ) : OpOK P G o (ins.ent σ) σ (ins.upd σ):=by
 unfold copD at h
 split at h
 case h_1 x ho=>
  simp only [Option.bind_eq_some_iff,Option.some.injEq] at h
  obtain ⟨X,hX,rfl⟩:=h
  exact in_mov (.inl ho) hX hdst hd
 case h_2 x ho=>
  simp only [Option.bind_eq_some_iff,Option.some.injEq] at h
  obtain ⟨X,hX,rfl⟩:=h
  exact in_mov (.inr ho) hX hdst hd
 case h_3 c x y ho=>
  simp only [Option.bind_eq_some_iff,Option.some.injEq] at h
  obtain ⟨C,hC,X,hX,Y,hY,rfl⟩:=h
  exact in_pick ho hC hX hY hdst hd hok
 case h_4 op t x y t' ho=>
  split at h
  ·rename_i hc
   simp only [Option.bind_eq_some_iff,Option.some.injEq] at h
   obtain ⟨X,hX,rfl⟩:=h
   simp only [Bool.and_eq_true,Bool.or_eq_true] at hc
   obtain ⟨⟨hc1,hc2⟩,hc3⟩:=hc
   obtain ⟨e,he⟩:=Option.isSome_iff_exists.1 hc2
   rw [isNilC_eq hc1] at ho
   rcases hc3 with hc3 | hc3
   ·have e1:=isEql_eq hc3
    subst e1
    exact in_isn (neg:=false) ho (sliceElem_some he) hX hdst hd hok
   ·have e1:=isNeq_eq hc3
    subst e1
    exact in_isn (neg:=true) ho (sliceElem_some he) hX hdst hd hok
  simp only [Option.bind_eq_some_iff] at h
  obtain ⟨X,hX,Y,hY,h⟩:=h
  split at h
  ·rename_i hc
   obtain rfl:=Option.some.inj h
   rw [Bool.and_eq_true] at hc
   rw [isEql_eq hc.1] at ho
   exact in_beq (neg:=false) ho (isBool_some hc.2) hX hY hdst hd hok
  ·split at h
   ·rename_i hc
    obtain rfl:=Option.some.inj h
    rw [Bool.and_eq_true] at hc
    rw [isNeq_eq hc.1] at ho
    exact in_beq (neg:=true) ho (isBool_some hc.2) hX hY hdst hd hok
   ·split at h
    ·rename_i hc
     simp only [Option.bind_eq_some_iff,Option.some.injEq] at h
     obtain ⟨ks,hks,rfl⟩:=h
     rw [Bool.and_eq_true] at hc
     rw [isEql_eq hc.1] at ho
     exact in_eqs (neg:=false) ho hks hX hY hdst hd hok
    ·split at h
     ·rename_i hc
      simp only [Option.bind_eq_some_iff,Option.some.injEq] at h
      obtain ⟨ks,hks,rfl⟩:=h
      rw [Bool.and_eq_true] at hc
      rw [isNeq_eq hc.1] at ho
      exact in_eqs (neg:=true) ho hks hX hY hdst hd hok
     ·obtain rfl:=Option.some.inj h
      exact in_bin ho hX hY hdst hd hok
 case h_5 op t x ho=>
  simp only [Option.bind_eq_some_iff,Option.some.injEq] at h
  obtain ⟨X,hX,rfl⟩:=h
  exact in_un ho hX hdst hd hok
 case h_6 t u x ho=>
  simp only [Option.bind_eq_some_iff,oif_some,Option.some.injEq] at h
  obtain ⟨X,hX,k,hu,ht,rfl⟩:=h
  obtain ⟨td,ht⟩:=Option.isSome_iff_exists.1 ht
  exact in_cvt ho ht (intKind_some hu) hX hdst hd hok
 case h_7 T ho=>
  simp only [Option.bind_eq_some_iff,Option.some.injEq] at h
  obtain ⟨zs,hz,rfl⟩:=h
  exact in_alloc ho hz hdst hd hok
 case h_8 T x ho=>
  simp only [Option.bind_eq_some_iff,Option.some.injEq] at h
  obtain ⟨X,hX,n,_,rfl⟩:=h
  exact in_box ho hX hdst hd hok
 case h_9 T ps ho=>
  simp only [Option.bind_eq_some_iff,Option.some.injEq] at h
  obtain ⟨zs,hz,place,hp,qs,hq,rfl⟩:=h
  exact in_build ho hz hp (cparts_ok hq) hdst hd hok
 case h_10 T m ps ho=>
  simp only [Option.bind_eq_some_iff,oif_some,Bool.and_eq_true,decide_eq_true_eq,beq_iff_eq] at h
  obtain ⟨e,he,n,hn,zs,hz,qs,hq,⟨⟨h0,h1⟩,h2⟩,h⟩:=h
  split at h
  ·rename_i hc
   obtain rfl:=Option.some.inj h
   exact in_bsl0 ho (sliceElem_some he) hn h0 hz h1 (celems_ok hq) hc.1 (List.isEmpty_iff.1 hc.2) hdst hd
  ·split at h
   ·obtain rfl:=Option.some.inj h
    exact in_bslx ho (sliceElem_some he) hn h0 hz h1 h2 (celems_ok hq) hdst hd hok
   ·obtain rfl:=Option.some.inj h
    exact in_bsl ho (sliceElem_some he) hn h0 hz h1 h2 (celems_ok hq) hdst hd hok
 case h_11 T x ho=>
  simp only [Option.bind_eq_some_iff,Option.some.injEq] at h
  obtain ⟨s,hs,n,hn,rfl⟩:=h
  obtain ⟨rfl,hs'⟩:=tmpOf_some hs
  exact in_lod ho hs' hn hdst hd hok
 case h_12 S x f ho=>
  simp only [Option.bind_eq_some_iff,Option.some.injEq] at h
  obtain ⟨s,hs,⟨q,n⟩,hq,rfl⟩:=h
  obtain ⟨rfl,hs'⟩:=tmpOf_some hs
  exact in_fad ho hs' hq hdst hd hok
 case h_13 T x i ho=>
  simp only [Option.bind_eq_some_iff] at h
  obtain ⟨s,hs,I,hI,h⟩:=h
  obtain ⟨rfl,hs'⟩:=tmpOf_some hs
  split at h
  ·rename_i m e he
   simp only [Option.bind_eq_some_iff,Option.some.injEq] at h
   obtain ⟨n,hn,rfl⟩:=h
   exact in_iaa ho hs' (arrayOf_some he) hn hI hdst hd hok
  ·simp only [Option.bind_eq_some_iff,Option.some.injEq] at h
   obtain ⟨e,he,n,hn,rfl⟩:=h
   exact in_iad ho hs' (sliceElem_some he) hn hI hdst hd hok
 case h_14 T x f ho=>
  simp only [Option.bind_eq_some_iff,Option.some.injEq] at h
  obtain ⟨X,hX,⟨q,n⟩,hq,rfl⟩:=h
  exact in_fld ho hq hX hdst hd hok
 case h_15 x i ho=>
  simp only [Option.bind_eq_some_iff,Option.some.injEq] at h
  obtain ⟨s,hs,rfl⟩:=h
  obtain ⟨rfl,hs'⟩:=tmpOf_some hs
  exact in_ext ho hs' hdst hd hok
 case h_16 T x i ho=>
  simp only [Option.bind_eq_some_iff] at h
  obtain ⟨X,hX,I,hI,h⟩:=h
  split at h
  ·rename_i m e he
   simp only [Option.bind_eq_some_iff,Option.some.injEq] at h
   obtain ⟨n,hn,rfl⟩:=h
   exact in_ida ho (arrayOf_some he) hn hX hI hdst hd hok
  ·simp only [oif_some,Option.some.injEq] at h
   obtain ⟨hT,rfl⟩:=h
   exact in_idx ho (isString_some hT) hX hI hdst hd hok
 case h_17 T x lo hi ho=>
  simp only [Option.bind_eq_some_iff] at h
  obtain ⟨X,hX,L,hL,H,hH,h⟩:=h
  split at h
  ·rename_i hT
   obtain rfl:=Option.some.inj h
   exact in_slcs ho (isString_some hT) hX (cbound_ok hL) (cbound_ok hH) hdst hd hok
  ·simp only [Option.bind_eq_some_iff,Option.some.injEq] at h
   obtain ⟨e,he,n,hn,rfl⟩:=h
   exact in_slc ho (sliceElem_some he) hn rfl hX (cbound_ok hL) (cbound_ok hH) hdst hd hok
 case h_18 T x y ho=>
  simp only [Option.bind_eq_some_iff,oif_some,Option.some.injEq,Bool.and_eq_true,decide_eq_true_eq,beq_iff_eq] at h
  obtain ⟨e,he,n,hn,zs,hz,i,hi,X,hX,⟨⟨h0,h1⟩,h2⟩,rfl⟩:=h
  obtain rfl:=sameOpd_eq h0
  exact in_mks ho (sliceElem_some he) hn h1 hz h2 hi rfl hX hdst hd hok
 case h_19 T x ho=>
  simp only [Option.bind_eq_some_iff,oif_some,Option.some.injEq] at h
  obtain ⟨X,hX,hT,rfl⟩:=h
  unfold concrete' at hT
  split at hT
  ·cases hT
  ·rename_i u hn hu
   exact in_ifc ho hu (fun m e=>hn m e) hX hdst hd
  ·cases hT
 case h_20 name first xs ho=>
  split at h
  ·rename_i x hf
   obtain rfl : first = #[x]:=by apply Array.ext'; simpa using hf
   simp only [Option.bind_eq_some_iff,oif_some,Option.some.injEq,Array.isEmpty_iff] at h
   obtain ⟨X,hX,rfl,rfl⟩:=h
   exact in_mkb ho hX hdst hd hok
  ·cases h
 case h_21 f first xs ho=>
  split at h
  ·rename_i x hf
   obtain rfl : first = #[x]:=by apply Array.ext'; simpa using hf
   simp only [Option.bind_eq_some_iff,oif_some,Option.some.injEq,Array.isEmpty_iff] at h
   obtain ⟨X,hX,rfl,rfl⟩:=h
   exact in_mkm ho hX hdst hd
  ·simp only [Option.bind_eq_some_iff,oif_some,Option.some.injEq,Array.isEmpty_iff] at h
   obtain ⟨Xs,hX,rfl,rfl⟩:=h
   exact in_mkf ho hX hdst hd
 case h_22 x ho=>
  simp only [Option.bind_eq_some_iff,Option.some.injEq] at h
  obtain ⟨s,hs,rfl⟩:=h
  obtain ⟨rfl,hs'⟩:=tmpOf_some hs
  rcases hok with hok | ⟨t,name,e,hv,hn⟩
  ·exact in_nilc ho hs' hdst hd hok
  ·exact in_nilb ho hs' hdst hd hv hn
 case h_23 args ts ho=>
  split at h
  ·rename_i x T ha ht
   obtain rfl : args = #[x]:=by apply Array.ext'; simpa using ha
   obtain rfl : ts = #[T]:=by apply Array.ext'; simpa using ht
   simp only [Option.bind_eq_some_iff] at h
   obtain ⟨X,hX,h⟩:=h
   split at h
   ·rename_i hT
    obtain rfl:=Option.some.inj h
    exact in_lens ho (isString_some hT) hX hdst hd hok
   ·simp only [Option.bind_eq_some_iff,Option.some.injEq] at h
    obtain ⟨e,he,rfl⟩:=h
    exact in_len ho (sliceElem_some he) hX hdst hd hok
  ·cases h
 case h_24 args ts ho=>
  split at h
  ·rename_i x y T U ha ht
   obtain rfl : args = #[x,y]:=by apply Array.ext'; simpa using ha
   obtain rfl : ts = #[T,U]:=by apply Array.ext'; simpa using ht
   simp only [Option.bind_eq_some_iff] at h
   obtain ⟨X,hX,Y,hY,e,he,n,hn,zs,hz,i,hi,h⟩:=h
   split at h
   ·rename_i h2
    simp only [oif_some,Option.some.injEq,Bool.and_eq_true,decide_eq_true_eq,beq_iff_eq] at h h2
    obtain ⟨⟨h0,h1⟩,rfl⟩:=h
    subst h2
    exact in_app ho (sliceElem_some he) hn rfl h0 hz h1 hi rfl hX hY hdst hd hok
   ·simp only [oif_some,Option.some.injEq,Bool.and_eq_true,decide_eq_true_eq,beq_iff_eq] at h
    obtain ⟨⟨⟨h0,h1⟩,h2⟩,rfl⟩:=h
    obtain ⟨kd,hk⟩:=Option.isSome_iff_exists.1 h2
    exact in_apm ho (sliceElem_some he) (intKind_some hk) hn h0 hz h1 hi rfl hX hY hdst hd hok
  ·cases h
 case h_25 args ts ho=>
  split at h
  ·rename_i x y T U ha ht
   obtain rfl : args = #[x,y]:=by apply Array.ext'; simpa using ha
   obtain rfl : ts = #[T,U]:=by apply Array.ext'; simpa using ht
   simp only [Option.bind_eq_some_iff,oif_some,Option.some.injEq,Bool.and_eq_true,decide_eq_true_eq,beq_iff_eq] at h
   obtain ⟨X,hX,Y,hY,e,he,n,hn,⟨h0,h2⟩,rfl⟩:=h
   subst h2
   exact in_cpy ho (sliceElem_some he) hn rfl h0 hX hY hdst hd hok
  ·cases h
 case h_26 args ts ho=>
  split at h
  ·rename_i x T ha ht
   obtain rfl : args = #[x]:=by apply Array.ext'; simpa using ha
   obtain rfl : ts = #[T]:=by apply Array.ext'; simpa using ht
   simp only [Option.bind_eq_some_iff,oif_some,Option.some.injEq] at h
   obtain ⟨X,hX,h2,rfl⟩:=h
   obtain ⟨e,he⟩:=Option.isSome_iff_exists.1 h2
   exact in_capn ho (sliceElem_some he) hX hdst hd hok
  ·cases h
 case h_27 args ts ho=>
  split at h
  ·rename_i x T ha ht
   obtain rfl : args = #[x]:=by apply Array.ext'; simpa using ha
   obtain rfl : ts = #[T]:=by apply Array.ext'; simpa using ht
   simp only [Option.bind_eq_some_iff,oif_some,Option.some.injEq,Bool.and_eq_true,decide_eq_true_eq,beq_iff_eq] at h
   obtain ⟨X,hX,e,he,n,hn,zs,hz,⟨h0,h2⟩,rfl⟩:=h
   exact in_clr ho (sliceElem_some he) rfl h0 hz h2 hX hdst hd hok
  ·cases h
 case h_28 b args ts _ _ _ _ _ ho=>
  split at h
  ·rename_i x y ha
   obtain rfl : args = #[x,y]:=by apply Array.ext'; simpa using ha
   simp only [Option.bind_eq_some_iff,Option.some.injEq] at h
   obtain ⟨mx,hb,X,hX,Y,hY,rfl⟩:=h
   rw [isMm_eq hb] at ho
   exact in_mm ho hX hY hdst hd hok
  ·cases h
 case h_29=>cases h
theorem ccall_call {d' f : Nat} {xs : List Opd} (h : ccall P o d = some (.call d' f xs)) : d' = d ∧ enters P f = true ∧ ∃ (ops : Array Operand) (ts : Array TypeId),o.op = .call { callee:=.value (.func f),args:=ops,argTypes:=ts } ∧ ops.toList.mapM opd = some xs:=by
 unfold ccall at h
 split at h
 ·rename_i f' args ts ho
  simp only [Option.bind_eq_some_iff,oif_some,Option.some.injEq,In.call.injEq] at h
  obtain ⟨xs,hx,hf,rfl,rfl,rfl⟩:=h
  exact ⟨rfl,hf,args,ts,ho,hx⟩
 ·simp only [Option.bind_eq_some_iff,Option.some.injEq,reduceCtorEq,and_false,exists_false] at h
 ·simp only [Option.bind_eq_some_iff,Option.some.injEq,reduceCtorEq,and_false,exists_false] at h
 ·cases h
theorem ccall_cal {d' : Nat} {X : Opd} {xs : List Opd} (h : ccall P o d = some (.cal d' X xs)) : d' = d ∧ ∃ (x : Operand) (ops : Array Operand) (ts : Array TypeId),o.op = .call { callee:=.value x,args:=ops,argTypes:=ts } ∧ opd x = some X ∧ ops.toList.mapM opd = some xs:=by
 unfold ccall at h
 split at h
 ·simp only [Option.bind_eq_some_iff,oif_some,Option.some.injEq,reduceCtorEq,and_false,exists_false] at h
 ·rename_i x args ts _ ho
  simp only [Option.bind_eq_some_iff,Option.some.injEq,In.cal.injEq] at h
  obtain ⟨X,hX,xs,hx,rfl,rfl,rfl⟩:=h
  exact ⟨rfl,x,args,ts,ho,hX,hx⟩
 ·simp only [Option.bind_eq_some_iff,Option.some.injEq,reduceCtorEq,and_false,exists_false] at h
 ·cases h
theorem ccall_inv {d' : Nat} {X : Opd} {name : String} {xs : List Opd} (h : ccall P o d = some (.inv d' X name xs)) : d' = d ∧ ∃ (x : Operand) (ops : Array Operand) (ts : Array TypeId),o.op = .call { callee:=.invoke x name,args:=ops,argTypes:=ts } ∧ opd x = some X ∧ ops.toList.mapM opd = some xs:=by
 unfold ccall at h
 split at h
 ·simp only [Option.bind_eq_some_iff,oif_some,Option.some.injEq,reduceCtorEq,and_false,exists_false] at h
 ·simp only [Option.bind_eq_some_iff,Option.some.injEq,reduceCtorEq,and_false,exists_false] at h
 ·rename_i x name' args ts ho
  simp only [Option.bind_eq_some_iff,Option.some.injEq,In.inv.injEq] at h
  obtain ⟨X,hX,xs,hx,rfl,rfl,rfl,rfl⟩:=h
  exact ⟨rfl,x,args,ts,ho,hX,hx⟩
 ·cases h
theorem cop_ok (h : cop P G.n xo o = some ins) (hok : ins.okP P σ) : OpOK P G o (ins.ent σ) σ (ins.upd σ):=by
 unfold cop at h
 cases hd : o.dst with
 | some d=>
  rw [hd] at h
  simp only [oif_some,decide_eq_true_eq] at h
  exact copD_ok h.2 hd h.1 hok
 | none=>
  rw [hd] at h
  simp only at h
  split at h
  ·rename_i T s x ho
   simp only [Option.bind_eq_some_iff,oif_some,Option.some.injEq,decide_eq_true_eq] at h
   obtain ⟨t,ht,n,hn,X,hX,h0,rfl⟩:=h
   obtain ⟨rfl,ht'⟩:=tmpOf_some ht
   exact in_sto ho ht' hn h0 hX hd hok
  ·rename_i args ts ho
   split at h
   ·rename_i x T ha ht
    obtain rfl : args = #[x]:=by apply Array.ext'; simpa using ha
    obtain rfl : ts = #[T]:=by apply Array.ext'; simpa using ht
    simp only [Option.bind_eq_some_iff,oif_some,Option.some.injEq,Bool.and_eq_true,decide_eq_true_eq,beq_iff_eq] at h
    obtain ⟨X,hX,e,he,n,hn,zs,hz,⟨h0,h2⟩,rfl⟩:=h
    exact in_clr0 ho (sliceElem_some he) rfl h0 hz h2 hX hd hok
   ·cases h
  ·cases h
end
end
section
open Go.RowKit
def hold {α : Sort _} (x : α) : α:=x
theorem hold_eq {α : Sort _} (x : α) : hold x = x:=rfl
mutual
def D.frz (g s : Nat) (es : List D) : D → D
 | .any=>.any
 | .v x=>.v x
 | .sl a b=>.sl a b
 | .nul=>.nul
 | .agg cs=>.agg (D.frzL g s es cs)
 | .tup cs=>.tup (D.frzL g s es cs)
 | .ifc t d=>.ifc t (D.frz g s es d)
 | .bnd t name d=>.bnd t name (D.frz g s es d)
 | .mv f d=>.mv f (D.frz g s es d)
 | .fn f cs=>.fn f (D.frzL g s es cs)
 | .ptr cs=>.ptr cs
 | .ref a b=>.ref a b
 | .own h t n=>if h = g ∧ t = s ∧ n ≤ es.length then .sl s (es.take n) else .own h t n
 | .owo h t o n=>if h = g then .any else .owo h t o n
 | .eref a b c d=>.eref a b c d
 | .obj cs=>.obj (D.frzL g s es cs)
 | .row a b=>.row a b
 | .free=>.free
 | .gho l L e k=>.gho l L e k
 | .kow a b c=>.kow a b c
 | .fam St=>.fam St
def D.frzL (g s : Nat) (es : List D) : List D → List D
 | []=>[]
 | d :: l=>D.frz g s es d :: D.frzL g s es l
end
theorem D.frzL_map (g s : Nat) (es : List D) : ∀ l : List D,D.frzL g s es l = l.map (D.frz g s es)
 | []=>rfl
 | d :: l=>by rw [D.frzL,D.frzL_map g s es l]; rfl
theorem Fz.frz {w w' : World} {F F' : Cells} {T : Blocks} {m : Names} {g s : Nat} {es : List D} (c : Chg w F T w' F') (hrow : ∀ (m' : Names) (n : Nat) (x : Value),m' g = m g → Fz w F m' (.own g s n) x → n ≤ es.length → Fz w' F' m' (.sl s (es.take n)) x)
  {m' : Names} {d : D} {x : Value} (h : Fz w F m' d x) : m' g = m g → Fz w' F' m' (d.frz g s es) x:=by
 have cs_at : ∀ {cs : List D} {i : Nat} {d : D},(D.frzL g s es cs)[i]? = some d → ∃ e,cs[i]? = some e ∧ d = e.frz g s es:=by
  intro cs i d hd
  rw [D.frzL_map,List.getElem?_map] at hd
  cases hc : cs[i]? with
  | none=>rw [hc] at hd; cases hd
  | some e=>rw [hc] at hd; exact ⟨e,rfl,by simpa using hd.symm⟩
 induction h with
 | any m x=>intro _; exact .any m x
 | v m x=>intro _; exact .v m x
 | sl0 m s a cap=>intro _; exact .sl0 m s a cap
 | sl m s es b off cap u hs hle hlen hu hr ih=>intro _; exact (Fz.sl m s es b off cap u hs hle hlen hu hr).still c
 | nul m a=>intro _; exact .nul m a
 | agg m cs us hl h1 hr ih=>
  intro hm
  rw [D.frz]
  exact .agg m _ us (by rw [D.frzL_map,List.length_map]; exact hl) h1 (fun i d u hd hu=>by obtain ⟨e,he,rfl⟩:=cs_at hd; exact ih i e u he hu hm)
 | tup m cs us hl hr ih=>
  intro hm
  rw [D.frz]
  exact .tup m _ us (by rw [D.frzL_map,List.length_map]; exact hl) (fun i d u hd hu=>by obtain ⟨e,he,rfl⟩:=cs_at hd; exact ih i e u he hu hm)
 | ifc m t d x h ih=>intro hm; rw [D.frz]; exact .ifc m t _ x (ih hm)
 | bnd m t name d x h ih=>intro hm; rw [D.frz]; exact .bnd m t name _ x (ih hm)
 | mv m f d x h ih=>intro hm; rw [D.frz]; exact .mv m f _ x (ih hm)
 | fn m f cs us hl hr ih=>
  intro hm
  rw [D.frz]
  exact .fn m f _ us (by rw [D.frzL_map,List.length_map]; exact hl) (fun i d u hd hu=>by obtain ⟨e,he,rfl⟩:=cs_at hd; exact ih i e u he hu hm)
 | ptr m cs b off u hu hr ih=>intro _; exact (Fz.ptr m cs b off u hu hr).still c
 | ref m g o b hg=>intro _; exact .ref m g o b hg
 | own m h t n b cap cur U hg hs hle hb hcap=>
  intro hm
  rw [D.frz]
  split
  ·rename_i e
   obtain ⟨rfl,rfl,hn⟩:=e
   exact hrow m n _ hm (.own m h t n b cap cur U hg hs hle hb hcap) hn
  ·exact (Fz.own m h t n b cap cur U hg hs hle hb hcap).still c
 | own0 m h t a hg=>
  intro hm
  rw [D.frz]
  split
  ·rename_i e
   obtain ⟨rfl,rfl,hn⟩:=e
   exact hrow m 0 _ hm (.own0 m h t a hg) hn
  ·exact .own0 m h t a hg
 | owo m h t o n b cap cur U hg hs hle hb hcap=>
  intro hm
  rw [D.frz]
  split
  ·exact .any m _
  ·exact (Fz.owo m h t o n b cap cur U hg hs hle hb hcap).still c
 | owo0 m h t o a cap p hg=>
  intro hm
  rw [D.frz]
  split
  ·exact .any m _
  ·exact .owo0 m h t o a cap p hg
 | eref m g s i o b hg=>intro _; exact .eref m g s i o b hg
 | gho m l L e k x=>intro _; exact .gho m l L e k x
 | kow m κ s n b cap cur U hκ hg hs hle hb hcap=>intro _; exact (Fz.kow m κ s n b cap cur U hκ hg hs hle hb hcap).still c
theorem D.frz_gho {g s : Nat} {es : List D} {d : D} {l e k : Nat} {L : List D} (h : d.frz g s es = .gho l L e k) : d = .gho l L e k:=by
 cases d with
 | own a b c=>rw [D.frz] at h; split at h <;> cases h
 | owo a b c d=>rw [D.frz] at h; split at h <;> cases h
 | gho a b c d=>rw [D.frz] at h; exact h
 | _=>rw [D.frz] at h; cases h
section
variable {P : Program} {G : Ctx} {σ τ : Env} {a : Act} {w : World} {F : Cells} {m : Names} {tm : Array Value}
theorem RelF.freeze (h : RelF G τ tm w F m) {g s : Nat} {es : List D} (hg : nb ≤ g) (hr : τ g = .row s es) (hp : D.purL es = true) :
  ∃ F',RelF G (τ.set g .any) tm w F' m ∧ ∀ (d : D) (x : Value),Fz w F m d x → Fz w F' m (d.frz g s es) x:=by
 have hb:=h.blks g hg
 rw [hr] at hb
 have hbl : (τ g).isBlk = true:=by rw [hr]; rfl
 rcases hb with ⟨rfl,hmg⟩ | ⟨b,cur,T,hmg,hcur,hs,hlen,hsz,hc,hF⟩
 ·refine ⟨F,h.turn hg hbl (Chg.refl w F _) h.wf trivial (fun e=>by cases e),fun d x hx=>hx.frz (Chg.refl w F noBlocks) (fun m' n x hm' hx hn=>?_) rfl⟩
  obtain rfl : n = 0:=by simpa using hn
  cases hx with
  | own _ _ _ _ b cap cur U hg'=>rw [hm',hmg] at hg'; cases hg'
  | own0 _ _ _ a' hg'=>exact .sl0 m' s a' 0
 ·have c : Chg w F (fun k=>m g = some (some k)) w (F.with b (es.length * s)):=by
   refine ⟨rfl,rfl,rfl,Nat.le_refl _,fun _ _ _=>rfl,fun b cur U z hb=>⟨cur,hb,rfl⟩,fun b o hf=>⟨.inl hf,rfl⟩,fun k o hf hk hn=>?_,Nat.le_refl _⟩
   rcases hf with hf | ⟨rfl,_⟩
   ·exact hf
   ·exact absurd hmg hn
  have hblt : b < w.heap.size:=(Array.getElem?_eq_some_iff.1 hcur).1
  refine ⟨F.with b (es.length * s),h.turn hg hbl c (fun k o hf=>?_) trivial (fun e=>by cases e),fun d x hx=>hx.frz c (fun m' n x hm' hx hn=>?_) rfl⟩
  ·rcases hf with hf | ⟨rfl,_⟩
   ·exact h.wf k o hf
   ·exact hblt
  ·have main : ∀ cap,n ≤ cap → Fz w (F.with b (es.length * s)) m' (.sl s (es.take n)) (.slice (some ⟨b,0,none⟩) n cap):=by
    intro cap hle
    have hpl : CellsOK w F noNames (D.flat es) (cur.toList.take (es.length * s)):=hc.pure (m':=noNames) (D.purL_iff.2 (fun d hd=>by
     obtain ⟨e',he',hd⟩:=List.mem_flatMap.1 hd
     have h1:=D.purL_iff.1 hp e' he'
     cases e' with
     | agg cs=>exact D.purL_iff.1 h1 d hd
     | _=>obtain rfl:=List.mem_singleton.1 hd; exact h1))
    obtain ⟨h1,h2,h3⟩:=part_cells hs hlen hpl 0 n (Nat.zero_le _) hn
    rw [List.drop_zero,Nat.zero_mul,List.drop_zero,Nat.sub_zero] at h3
    rw [List.drop_zero] at h1
    have hlt : (es.take n).length = n:=by rw [List.length_take]; omega
    have hle2 : n * s ≤ es.length * s:=Nat.mul_le_mul_right _ hn
    have:=Fz.ofCells (w:=w) (F:=F.with b (es.length * s)) (m:=m') (b:=b) (off:=0) (cap:=cap) hs (by rw [hlt]; exact hle) h1 (h3.stable c (fun _ _ h=>h)) (fun j v hj=>by
     rw [List.getElem?_take] at hj
     split at hj
     ·rename_i hjn
      rw [List.getElem?_take,if_pos (by omega)] at hj
      refine ⟨?_,.inr ⟨rfl,by omega⟩⟩
      rw [Nat.zero_add,cell_of_row w b j cur T (0,0) hcur,← Array.getElem?_toList]
      exact hj
     ·cases hj)
    rw [hlt] at this
    exact this
   cases hx with
   | own _ _ _ _ b' cap cur' U hg' hs' hle' hb' hcap'=>
    rw [hm',hmg] at hg'
    obtain rfl : b = b':=by simpa using hg'
    exact main cap hle'
   | own0 _ _ _ a' hg'=>rw [hm',hmg] at hg'; cases hg'
def Wk (k : Nat) (σ τ : Env) : Prop:=∀ (G : Ctx) (a : Act) (w : World),G.k = k → Rel G σ a w → Rel G τ a w
theorem Wk.refl (k : Nat) (σ : Env) : Wk k σ σ:=fun _ _ _ _ h=>h
theorem Wk.trans {k : Nat} {σ τ ρ : Env} (h : Wk k σ τ) (h1 : Wk k τ ρ) : Wk k σ ρ:=fun G a w hk hR=>h1 G a w hk (h G a w hk hR)
def frzU (σ : Env) (t g s : Nat) (es : List D) : Upd:=[(g,.any),(t,(σ t).frz g s es)]
theorem Rel.frz {t g s : Nat} {es : List D} (hR : Rel G τ a w) (ht : t < nb) (hg : nb ≤ g) (hr : τ g = .row s es) (hp : D.purL es = true) : Rel G (Env.put (frzU τ t g s es) τ) a w:=by
 obtain ⟨hd,F,m,h⟩:=hR
 obtain ⟨F',h1,h2⟩:=h.freeze hg hr hp
 exact ⟨hd,F',m,h1.recast ht (fun l L e k he=>by rw [Env.set_ne _ _ _ _ (by omega)]; exact D.frz_gho he) (h2 _ _ (h.slots t ht))⟩
def frzO (σ : Env) (q g s : Nat) (es : List D) : Upd:=[(g,.any),(q,(σ q).frz g s es)]
theorem Rel.frzObj {q g s : Nat} {es cs : List D} (hR : Rel G τ a w) (hq : nb ≤ q) (hqg : q ≠ g) (hcs : τ q = .obj cs) (hg : nb ≤ g) (hr : τ g = .row s es) (hp : D.purL es = true) : Rel G (Env.put (frzO τ q g s es) τ) a w:=by
 obtain ⟨hd,F,m,h⟩:=hR
 obtain ⟨F',h1,h2⟩:=h.freeze hg hr hp
 have e : (τ.set g .any) q = τ q:=Env.set_ne _ _ _ _ hqg
 have hbl : ((τ.set g .any) q).isBlk = true:=by rw [e,hcs]; rfl
 refine ⟨hd,F',m,h1.turn hq hbl (Chg.refl w F' _) h1.wf ?_ (fun e=>by rw [hcs,D.frz] at e; cases e)⟩
 have h0:=h.blks q hq
 have h3:=h1.blks q hq
 rw [e,hcs] at h3
 rw [hcs] at h0 ⊢
 obtain ⟨b,cur,T,hm,hb,hc,hF⟩:=h3
 obtain ⟨b0,cur0,T0,hm0,hb0,hc0,_⟩:=h0
 obtain rfl : b0 = b:=by rw [hm] at hm0; simpa using hm0.symm
 obtain rfl : cur0 = cur:=by rw [hb] at hb0; injection hb0 with h; injection h with h _ _; exact h.symm
 rw [D.frz]
 refine ⟨b0,cur0,T,hm,hb,⟨by rw [D.frzL_map,List.length_map]; exact hc0.len,hc0.one,fun j d u hd hu=>?_⟩,hF⟩
 rw [D.frzL_map,List.getElem?_map] at hd
 cases hj : cs[j]? with
 | none=>rw [hj] at hd; cases hd
 | some e'=>
  rw [hj] at hd
  obtain rfl : e'.frz g s es = d:=by simpa using hd
  exact h2 _ _ (hc0.fz j e' u hj hu)
def nodupB : List Nat → Bool
 | []=>true
 | x :: l=>!l.contains x && nodupB l
theorem nodupB_spec : ∀ {l : List Nat},nodupB l = true → l.Nodup
 | [],_=>List.nodup_nil
 | x :: l,h=>by
  rw [nodupB,Bool.and_eq_true,Bool.not_eq_true'] at h
  exact List.nodup_cons.2 ⟨(fun hm=>by rw [List.contains_iff_mem.2 hm] at h; exact absurd h.1 (by decide)),nodupB_spec h.2⟩
def canB (k : Nat) (L : List Nat) : Bool:=nodupB L && L.all (fun g=>decide (nb ≤ g)) && (List.range k).all fun i=>L[i]? == some (nb + i)
structure Can (k : Nat) (L : List Nat) : Prop where
 nd : L.Nodup
 ge : ∀ g,g ∈ L → nb ≤ g
 fix : ∀ i,i < k → L[i]? = some (nb + i)
theorem can_of {k : Nat} {L : List Nat} (h : canB k L = true) : Can k L:=by
 simp only [canB,Bool.and_eq_true,List.all_eq_true,decide_eq_true_eq,beq_iff_eq,List.mem_range] at h
 exact ⟨nodupB_spec h.1.1,h.1.2,h.2⟩
def D.nmd : D → Bool
 | .obj _=>true
 | .row _ _=>true
 | .any=>true
 | .free=>true
 | _=>false
theorem Wk.names {k : Nat} {L : List Nat} (hL : Can k L) (hslot : ∀ t,t < nb → τ t = .any ∨ σ t = (τ t).ren L) (hname : ∀ i g,L[i]? = some g → τ (nb + i) = .any ∨ ((τ (nb + i)).nmd = true ∧ σ g = (τ (nb + i)).ren L)) (hout : ∀ g,nb + L.length ≤ g → τ g = .free) : Wk k σ τ:=by
 rintro G a w rfl ⟨hd,F,m,h⟩
 obtain ⟨mm,mm1,mm0⟩ : ∃ mm : Names,(∀ g,nb ≤ g → mm g = (nameOf L g).bind m) ∧ ∀ g,g < nb → mm g = m g:=⟨fun g=>if g < nb then m g else (nameOf L g).bind m,fun g hg=>if_neg (by omega),fun g hg=>if_pos hg⟩
 refine ⟨hd,F,mm,?_⟩
 have hm : ∀ g g',nameOf L g = some g' → mm g = m g':=fun g g' hg=>by
  have hge : nb ≤ g:=Nat.le_of_not_lt (fun hlt=>by unfold nameOf at hg; rw [if_pos hlt] at hg; cases hg)
  rw [mm1 g hge,hg]
  rfl
 have hat : ∀ i g,L[i]? = some g → mm (nb + i) = m g:=fun i g hg=>by rw [mm1 _ (Nat.le_add_right _ _),nameOf_at,hg]; rfl
 have split : ∀ g,nb ≤ g → (∃ (i : Nat) (g' : Nat),g = nb + i ∧ L[i]? = some g') ∨ nb + L.length ≤ g:=by
  intro g hg
  by_cases hl : g - nb < L.length
  ·exact .inl ⟨g - nb,_,by omega,List.getElem?_eq_getElem hl⟩
  ·exact .inr (by omega)
 have blk : ∀ i g,L[i]? = some g → (τ (nb + i)).isBlk = true → (σ g).isBlk = true:=by
  intro i g hi hb
  rcases hname i g hi with e | ⟨_,e⟩
  ·rw [e] at hb; cases hb
  ·rw [e,isBlk_ren]; exact hb
 refine ⟨h.size,h.nle,fun t ht=>?_,fun g hg=>?_,fun g1 g2 b hg1 hg2 hb1 hb2 hm1 hm2=>?_,h.wf,h.chg,fun g b hg hb hmg=>?_,fun i hi=>?_,h.nlt,?_⟩
 ·rcases hslot t ht with e | e
  ·rw [e]; exact .any _ _
  ·exact (h.slots t ht).unren hm e.symm
 ·rcases split g hg with ⟨i,g',rfl,hi⟩ | ho
  ·rcases hname i g' hi with e | ⟨hk,e⟩
   ·rw [e]; trivial
   ·have hb:=h.blks g' (hL.ge g' (List.mem_of_getElem? hi))
    rw [e] at hb
    cases hv : τ (nb + i) with
    | any=>trivial
    | free=>
     rw [hv,D.ren] at hb
     show mm (nb + i) = none
     rw [hat i g' hi]
     exact hb
    | obj cs=>rw [hv] at hb; exact hb.unren rfl hm (hat i g' hi)
    | row s es=>rw [hv] at hb; exact hb.unren rfl hm (hat i g' hi)
    | _=>rw [hv] at hk; cases hk
  ·rw [hout g ho]
   show mm g = none
   rw [mm1 g hg]
   unfold nameOf
   rw [if_neg (by omega),List.getElem?_eq_none (by omega)]
   rfl
 ·rcases split g1 hg1 with ⟨i,g1',rfl,hi⟩ | ho
  ·rcases split g2 hg2 with ⟨j,g2',rfl,hj⟩ | ho
   ·rw [hat i g1' hi] at hm1
    rw [hat j g2' hj] at hm2
    have e:=h.inj g1' g2' b (hL.ge _ (List.mem_of_getElem? hi)) (hL.ge _ (List.mem_of_getElem? hj)) (blk i g1' hi hb1) (blk j g2' hj hb2) hm1 hm2
    subst e
    rw [(List.getElem?_inj (List.getElem?_eq_some_iff.1 hi).1 hL.nd).1 (hi.trans hj.symm)]
   ·rw [hout g2 ho] at hb2; cases hb2
  ·rw [hout g1 ho] at hb1; cases hb1
 ·rcases split g hg with ⟨i,g',rfl,hi⟩ | ho
  ·rw [hat i g' hi] at hmg
   exact h.own g' b (hL.ge _ (List.mem_of_getElem? hi)) (blk i g' hi hb) hmg
  ·rw [hout g ho] at hb; cases hb
 ·obtain ⟨h1,h2⟩:=h.par i hi
  have hi':=hL.fix i hi
  refine ⟨fun e=>?_,by rw [← h2]; exact hat i _ hi'⟩
  rcases hname i _ hi' with e' | ⟨_,e'⟩
  ·rw [e] at e'; cases e'
  ·rw [e,D.ren] at e'; exact h1 e'
 ·refine h.ext.step h.blks (Chg.refl w F noBlocks) h.wf (fun _ hb=>hb.elim) (fun l L' e k he=>?_) (fun g b hg hb hmg=>?_) mm0
  ·rcases hslot gh (by decide) with e' | e'
   ·rw [e'] at he; cases he
   ·rw [e',he,D.ren]
  ·rcases split g hg with ⟨i,g',rfl,hi⟩ | ho
   ·rw [hat i g' hi] at hmg
    exact .inl ⟨g',hL.ge _ (List.mem_of_getElem? hi),blk i g' hi hb,hmg⟩
   ·rw [hout g ho] at hb; cases hb
def base (c : Nat) : Env:=fun t=>if t < nb then .any else if t < nb + c then .any else .free
def ofL (c : Nat) : List (Nat × D) → Env
 | []=>base c
 | p :: l=>(ofL c l).set p.1 p.2
def agr1 (σ : Env) (L : List Nat) (p : Nat × D) : Prop:=
 if p.1 < nb then σ p.1 = p.2.ren L else match L[p.1 - nb]? with
  | some g=>p.2.nmd = true ∧ σ g = p.2.ren L
  | none=>False
def agr (σ : Env) (L : List Nat) : List (Nat × D) → Prop
 | []=>True
 | p :: l=>agr1 σ L p ∧ agr σ L l
theorem Wk.list {k c : Nat} (L : List Nat) {l : List (Nat × D)} (hc : L.length = c) (hL : canB k L = true) (hh : hold (agr σ L l)) : Wk k σ (ofL c l):=by
 have h : agr σ L l:=hh
 clear hh
 have key : (∀ t,t < nb → ofL c l t = .any ∨ σ t = (ofL c l t).ren L) ∧ (∀ i g,L[i]? = some g → ofL c l (nb + i) = .any ∨ ((ofL c l (nb + i)).nmd = true ∧ σ g = (ofL c l (nb + i)).ren L)) ∧ ∀ g,nb + L.length ≤ g → ofL c l g = .free:=by
  subst hc
  induction l with
  | nil=>
   refine ⟨fun t ht=>.inl ?_,fun i g hi=>.inl ?_,fun g hg=>?_⟩
   ·show base _ t = _; unfold base; rw [if_pos ht]
   ·have:=(List.getElem?_eq_some_iff.1 hi).1
    show base _ _ = _; unfold base; rw [if_neg (by omega),if_pos (by omega)]
   ·show base _ _ = _; unfold base; rw [if_neg (by omega),if_neg (by omega)]
  | cons p l ih=>
   obtain ⟨h1,h2,h3⟩:=ih h.2
   have hp:=h.1
   unfold agr1 at hp
   have hlt : p.1 < nb + L.length:=by
    split at hp
    ·omega
    ·split at hp
     ·rename_i g hg; have:=(List.getElem?_eq_some_iff.1 hg).1; omega
     ·exact hp.elim
   refine ⟨fun t ht=>?_,fun i g hi=>?_,fun g hg=>?_⟩
   ·by_cases e : t = p.1
    ·subst e; rw [if_pos ht] at hp; rw [ofL,Env.set_same]; exact .inr hp
    ·rw [ofL,Env.set_ne _ _ _ _ e]; exact h1 t ht
   ·by_cases e : nb + i = p.1
    ·rw [← e,if_neg (by omega),show nb + i - nb = i by omega,hi] at hp
     rw [ofL,e,Env.set_same]; exact .inr hp
    ·rw [ofL,Env.set_ne _ _ _ _ e]; exact h2 i g hi
   ·rw [ofL,Env.set_ne _ _ _ _ (by omega)]; exact h3 g hg
 exact Wk.names (can_of hL) key.1 key.2.1 key.2.2
end
end
section
open Go.RowKit
structure GI where
 ins : In
 dst : Option Nat
 g : Option (Nat × Bool)
 c : Bool
def skipUpd : Option Nat → Upd
 | none=>[]
 | some d=>[(d,.v undef)]
def copc (P : Program) (N : Nat) (xo : List Nat) (o : Oper) : Option (In × Bool):=
 oif (o.dst.all fun d=>decide (d < N)) (match o.dst.bind (ccall P o) with
  | some ins=>some (ins,true)
  | none=>(cop P N xo o).bind fun ins=>some (ins,false))
def cgi (P : Program) (N : Nat) (xo : List Nat) (ops : Array Oper) (o : Oper) : Option GI:=
 (copc P N xo o).bind fun q=>match o.guard with
  | none=>some ⟨q.1,o.dst,none,q.2⟩
  | some (g,v)=>((ops[g]?).bind (·.dst)).bind fun s=>oif (decide (s < N)) (some ⟨q.1,o.dst,some (s,v),q.2⟩)
def cgis (P : Program) (N : Nat) (xo : List Nat) (ops : Array Oper) : List Oper → Option (List GI)
 | []=>some []
 | o :: l=>(cgi P N xo ops o).bind fun gi=>(cgis P N xo ops l).bind fun m=>some (gi :: m)
def Ctx.okP (G : Ctx) (P : Program) : Prop:=∀ Y,G.Y = some Y → Y.P = P
def OpSem (P : Program) (ins : In) (c : Bool) (σ : Env) (e : Ent) (upd : Upd) : Prop:=∀ (G : Ctx) (_ : G.okP P) (xo : List Nat) (o : Oper),copc P G.n xo o = some (ins,c) → OpOK P G o e σ upd
def StepSem (P : Program) (gi : GI) (σ : Env) (e : Ent) (upd : Upd) : Prop:=∀ (G : Ctx) (_ : G.okP P) (xo : List Nat) (ops : Array Oper) (i : Nat) (o : Oper),ops[i]? = some o → cgi P G.n xo ops o = some gi → StepOK P ops G i e σ upd
def push (e : Ent) : Option (List Ent) → Option (List Ent)
 | none=>none
 | some l=>some (e :: l)
theorem push_some (e : Ent) (l : List Ent) : push e (some l) = some (e :: l):=rfl
def evG (P : Program) (B : List Nat) : List GI → Env → Option (List Ent) → (Env → Prop) → Prop
 | [],σ,acc,N=>(match acc with
  | some a=>okPairs B 0 a.reverse = true
  | none=>True) ∧ N σ
 | gi :: l,σ,acc,N=>∃ e upd,StepSem P gi σ e upd ∧ evG P B l (Env.put upd σ) (push e acc) N
def evS (P : Program) (B : List Nat) (rd wr : List Nat) (ins : In) (c : Bool) (l : List GI) (σ : Env) (acc : Option (List Ent)) (N : Env → Prop) : Prop:=
 ∃ e upd,OpSem P ins c σ e upd ∧ evG P B l (Env.put upd σ) (push ⟨rd ++ e.rd,wr ++ e.wr⟩ acc) N
def evQ (P : Program) (B : List Nat) (d : D) (s : Nat) (v : Bool) (ins : In) (c : Bool) (o : Option Nat) (l : List GI) (σ : Env) (acc : Option (List Ent)) (N : Env → Prop) : Prop:=
 match d with
 | .v (.bool q)=>(q = v → evS P B [s] o.toList ins c l σ acc N) ∧ (q = !v → evG P B l (Env.put (skipUpd o) σ) (push ⟨[s],o.toList⟩ acc) N)
 | .v _=>evG P B l (Env.put (skipUpd o) σ) (push ⟨[s],o.toList⟩ acc) N
 | _=>False
def evC (P : Program) (B : List Nat) (f : FuncId) (ds : List D) (rds : List Nat) (d : Nat) (rd wr : List Nat) (l : List GI) (σ : Env) (acc : Option (List Ent)) (N : Env → Prop) : Prop:=
 ∃ (H es H' : List D) (r : D) (R : List Nat),Does P f H es r H' ∧ CallOK σ R H H' ∧ ds = es.map (D.ren R) ∧ evG P B l (Env.put (callU R H' d r) σ) (push ⟨rd ++ (rds ++ R),wr ++ (R ++ [d])⟩ acc) N
def evV (P : Program) (B : List Nat) (x : D) (ds : List D) (rds : List Nat) (d : Nat) (rd wr : List Nat) (l : List GI) (σ : Env) (acc : Option (List Ent)) (N : Env → Prop) : Prop:=
 match x with
 | .fn f cs=>enters P f = true ∧ evC P B f (ds ++ cs) rds d rd wr l σ acc N
 | .bnd t name e=>∃ f e',MethAt P t name e f e' ∧ evC P B f (e' :: ds) rds d rd wr l σ acc N
 | .mv f e=>enters P f = true ∧ evC P B f (e :: ds) rds d rd wr l σ acc N
 | .v y=>∃ i L e k,y = .func (.yield i) #[] #[] ∧ σ gh = .gho i L e k ∧ k ≤ e ∧ L[k]? = some (.tup ds) ∧ D.purL ds = true ∧ evG P B l (Env.put [(gh,.gho i L e (k + 1)),(d,.v (.bool (decide (k ≠ e))))] σ) (push ⟨rd ++ (rds ++ [gh]),wr ++ [gh,d]⟩ acc) N
 | _=>False
def evI (P : Program) (B : List Nat) (x : D) (name : String) (ds : List D) (rds : List Nat) (d : Nat) (rd wr : List Nat) (l : List GI) (σ : Env) (acc : Option (List Ent)) (N : Env → Prop) : Prop:=
 match x with
 | .ifc t e=>∃ f e',MethAt P t name e f e' ∧ evC P B f (e' :: ds) rds d rd wr l σ acc N
 | _=>False
section
variable {P : Program} {G : Ctx} {σ : Env} {B : List Nat} {l : List GI} {acc : Option (List Ent)} {N : Env → Prop} {ins : In} {o : Option Nat} {c : Bool} {rd wr : List Nat}
theorem copc_call {xo : List Nat} {n : Nat} {op : Oper} (h : copc P n xo op = some (ins,true)) : ∃ d,op.dst = some d ∧ d < n ∧ ccall P op d = some ins:=by
 unfold copc at h
 rw [oif_some] at h
 obtain ⟨h1,h2⟩:=h
 cases hd : op.dst with
 | none=>
  rw [hd] at h2
  simp only [Option.bind_none,Option.bind_eq_some_iff,Option.some.injEq,Prod.mk.injEq,Bool.false_eq_true,and_false,exists_false] at h2
 | some d=>
  rw [hd] at h1 h2
  simp only [Option.all_some,decide_eq_true_eq] at h1
  refine ⟨d,rfl,h1,?_⟩
  simp only [Option.bind_some] at h2
  cases hc : ccall P op d with
  | none=>
   rw [hc] at h2
   simp only [Option.bind_eq_some_iff,Option.some.injEq,Prod.mk.injEq,Bool.false_eq_true,and_false,exists_false] at h2
  | some i=>
   rw [hc] at h2
   simp only [Option.some.injEq,Prod.mk.injEq,and_true] at h2
   rw [h2]
theorem copc_op {xo : List Nat} {n : Nat} {op : Oper} (h : copc P n xo op = some (ins,false)) : cop P n xo op = some ins:=by
 unfold copc at h
 rw [oif_some] at h
 obtain ⟨h1,h2⟩:=h
 split at h2
 ·simp only [Option.some.injEq,Prod.mk.injEq,Bool.true_eq_false,and_false] at h2
 ·simpa only [Option.bind_eq_some_iff,Option.some.injEq,Prod.mk.injEq,and_true,exists_eq_right] using h2
theorem copc_dst {xo : List Nat} {n : Nat} {op : Oper} {q : In × Bool} (h : copc P n xo op = some q) : ∀ d,op.dst = some d → d < n:=by
 unfold copc at h
 rw [oif_some] at h
 intro d hd
 rw [hd] at h
 simpa using h.1
theorem wanted_none {o : Oper} (h : o.guard = none) (y : Nat → Option Bool) : Region.wanted o y = true:=by
 unfold Region.wanted
 rw [h]
theorem wanted_some {o : Oper} {g : Nat} {v : Bool} (h : o.guard = some (g,v)) (y : Nat → Option Bool) : Region.wanted o y = (y g == some v):=by
 unfold Region.wanted
 rw [h]
theorem cgi_none {xo : List Nat} {n : Nat} {ops : Array Oper} {op : Oper} (h : cgi P n xo ops op = some ⟨ins,o,none,c⟩) : op.guard = none ∧ copc P n xo op = some (ins,c) ∧ op.dst = o:=by
 simp only [cgi,Option.bind_eq_some_iff] at h
 obtain ⟨⟨i,c'⟩,hi,h⟩:=h
 cases hg : op.guard with
 | none=>
  rw [hg] at h
  simp only [Option.some.injEq,GI.mk.injEq,true_and] at h
  obtain ⟨rfl,rfl,rfl⟩:=h
  exact ⟨rfl,hi,rfl⟩
 | some p=>
  rw [hg] at h
  simp only [Option.bind_eq_some_iff,oif_some,Option.some.injEq,GI.mk.injEq,reduceCtorEq,false_and,and_false,exists_false] at h
theorem cgi_some {xo : List Nat} {n s : Nat} {v : Bool} {ops : Array Oper} {op : Oper} (h : cgi P n xo ops op = some ⟨ins,o,some (s,v),c⟩) :
  ∃ g og,op.guard = some (g,v) ∧ ops[g]? = some og ∧ og.dst = some s ∧ s < n ∧ copc P n xo op = some (ins,c) ∧ op.dst = o:=by
 simp only [cgi,Option.bind_eq_some_iff] at h
 obtain ⟨⟨i,c'⟩,hi,h⟩:=h
 cases hg : op.guard with
 | none=>
  rw [hg] at h
  simp only [Option.some.injEq,GI.mk.injEq,reduceCtorEq,false_and,and_false] at h
 | some p=>
  obtain ⟨g,v'⟩:=p
  rw [hg] at h
  simp only [Option.bind_eq_some_iff,oif_some,Option.some.injEq,GI.mk.injEq,Prod.mk.injEq,decide_eq_true_eq] at h
  obtain ⟨s',⟨og,hog,hos⟩,hs,rfl,rfl,⟨rfl,rfl⟩,rfl⟩:=h
  exact ⟨g,og,rfl,hog,hos,hs,hi,rfl⟩
theorem sem_none {e : Ent} {upd : Upd} (h : OpSem P ins c σ e upd) : StepSem P ⟨ins,o,none,c⟩ σ e upd:=by
 intro G hP xo ops i op hi hc
 obtain ⟨hg,hcp,_⟩:=cgi_none hc
 have hop:=h G hP xo op hcp
 refine ⟨hop.wr,fun τ a w K Q hag hR hK n=>?_⟩
 unfold wpOpIn
 rw [hi]
 simp only [wanted_none hg,if_true]
 exact hop.run τ a w K Q hag hR hK n
theorem guard_tell {ops : Array Oper} {g s : Nat} {og : Oper} (hog : ops[g]? = some og) (hos : og.dst = some s) (hs : s < G.n) {x : Value} (hx : σ s = .v x) {τ : Env} {a : Act} {w : World} (hτ : τ s = σ s) (hR : Rel G τ a w) :
  yielded ops a.tmps g = (match x with | .bool q=>some q | _=>none):=by
 obtain ⟨_,F,m,hR⟩:=hR
 have h1:=hR.slots s (by have:=hR.nle; omega)
 rw [hτ,hx] at h1
 have h2:=h1.v_eq
 have h3 : s < a.tmps.size:=by rw [hR.size]; exact hs
 have h4 : a.tmps[s]? = some x:=by
  rw [Array.getElem?_eq_getElem h3,← h2]
  simp [Array.getD,h3]
 unfold yielded
 rw [hog]
 show (match ((some og).bind (·.dst)).bind (a.tmps[·]?) with | some (.bool b)=>some b | _=>none) = _
 rw [show (some og).bind (·.dst) = some s from hos]
 show (match a.tmps[s]? with | some (.bool b)=>some b | _=>none) = _
 rw [h4]
 cases x <;> rfl
theorem sem_run {e : Ent} {upd : Upd} {s : Nat} {v : Bool} (hs : σ s = .v (.bool v)) (h : OpSem P ins c σ e upd) : StepSem P ⟨ins,o,some (s,v),c⟩ σ ⟨[s] ++ e.rd,o.toList ++ e.wr⟩ upd:=by
 intro G hP xo ops i op hi hc
 obtain ⟨g,og,hg,hog,hos,hsn,hcp,_⟩:=cgi_some hc
 have hop:=h G hP xo op hcp
 refine ⟨fun p hp=>List.mem_append_right _ (hop.wr p hp),fun τ a w K Q hag hR hK n=>?_⟩
 unfold wpOpIn
 rw [hi]
 have hwt : Region.wanted op (yielded ops a.tmps) = true:=by
  rw [wanted_some hg,guard_tell hog hos hsn hs (hag s (List.mem_cons_self ..)) hR]
  simp
 simp only [hwt,if_true]
 exact hop.run τ a w K Q (fun t ht=>hag t (List.mem_append_right _ ht)) hR hK n
theorem sem_skip {x : Value} {s : Nat} {v : Bool} (hs : σ s = .v x) (hx : x ≠ .bool v) : StepSem P ⟨ins,o,some (s,v),c⟩ σ ⟨[s],o.toList⟩ (skipUpd o):=by
 intro G hP xo ops i op hi hc
 obtain ⟨g,og,hg,hog,hos,hsn,hcp,rfl⟩:=cgi_some hc
 refine ⟨fun p hp=>?_,fun τ a w K Q hag hR hK n=>?_⟩
 ·cases hd : op.dst with
  | none=>rw [hd] at hp; cases hp
  | some d=>
   rw [hd] at hp
   obtain rfl:=List.mem_singleton.1 hp
   exact List.mem_singleton.2 rfl
 ·unfold wpOpIn
  rw [hi]
  have hwt : Region.wanted op (yielded ops a.tmps) = false:=by
   rw [wanted_some hg,guard_tell hog hos hsn hs (hag s (List.mem_cons_self ..)) hR]
   cases x <;> first | rfl | skip
   rename_i q
   cases q <;> cases v <;> first | rfl | exact absurd rfl hx
  simp only [hwt,Bool.false_eq_true,if_false]
  refine ⟨fun _ _=>trivial,hK _ _ ?_⟩
  cases hd : op.dst with
  | none=>exact hR
  | some d=>
   obtain ⟨hdf,F,m,hR⟩:=hR
   exact ⟨hdf,F,m,hR.slot (copc_dst hcp d hd) (.v m undef)⟩
class Stp (q : outParam Prop) (p : Prop) : Prop where
 go : q → p
class Spl (q1 e1 n1 q2 e2 n2 : outParam Prop) (p : Prop) : Prop where
 go : (q1 → e1 → n1) → (q2 → e2 → n2) → p
theorem st_nil0 (h : N σ) : evG P B [] σ none N:=⟨trivial,h⟩
instance i_st_nil0 : Stp (N σ) (evG P B [] σ none N):=⟨st_nil0⟩
theorem st_nil {a : List Ent} (ho : okPairs B 0 a.reverse = true) (h : N σ) : evG P B [] σ (some a) N:=⟨ho,h⟩
theorem st_one (h : evS P B [] [] ins c l σ acc N) : evG P B (⟨ins,o,none,c⟩ :: l) σ acc N:=by
 obtain ⟨e,upd,hs,h⟩:=h
 exact ⟨e,upd,sem_none hs,h⟩
instance i_st_one : Stp (evS P B [] [] ins c l σ acc N) (evG P B (⟨ins,o,none,c⟩ :: l) σ acc N):=⟨st_one⟩
theorem st_guard {s : Nat} {v : Bool} (h : evQ P B (hold (σ s)) s v ins c o l σ acc N) : evG P B (⟨ins,o,some (s,v),c⟩ :: l) σ acc N:=by
 unfold hold evQ at h
 have run : ∀ q,σ s = .v (.bool q) → q = v → evS P B [s] o.toList ins c l σ acc N → evG P B (⟨ins,o,some (s,v),c⟩ :: l) σ acc N:=by
  rintro q hq rfl ⟨e,upd,hs,h⟩
  exact ⟨_,upd,sem_run hq hs,h⟩
 have skip : ∀ x,σ s = .v x → x ≠ .bool v → evG P B l (hold (Env.put (skipUpd o) σ)) (hold (push ⟨[s],o.toList⟩ acc)) N → evG P B (⟨ins,o,some (s,v),c⟩ :: l) σ acc N:=fun x hx hne h=>⟨_,_,sem_skip hx hne,h⟩
 cases hs : σ s with
 | v x=>
  rw [hs] at h
  cases x with
  | bool q=>
   by_cases hq : q = v
   ·exact run q hs hq (h.1 hq)
   ·exact skip _ hs (fun e=>hq (by injection e)) (h.2 (by cases q <;> cases v <;> first | rfl | exact absurd rfl hq))
  | _=>exact skip _ hs (fun e=>by cases e) h
 | _=>rw [hs] at h; exact h.elim
instance i_st_guard {s : Nat} {v : Bool} : Stp (evQ P B (hold (σ s)) s v ins c o l σ acc N) (evG P B (⟨ins,o,some (s,v),c⟩ :: l) σ acc N):=⟨st_guard⟩
theorem q_run {s : Nat} (v : Bool) (h : evS P B [s] o.toList ins c l σ acc N) : evQ P B (.v (.bool v)) s v ins c o l σ acc N:=⟨fun _=>h,(fun e=>by cases v <;> cases e)⟩
instance i_q_run {s : Nat} {v : Bool} : Stp (evS P B [s] o.toList ins c l σ acc N) (evQ P B (.v (.bool v)) s v ins c o l σ acc N):=⟨q_run _⟩
theorem q_tf {s : Nat} (h : evG P B l (hold (Env.put (skipUpd o) σ)) (hold (push ⟨[s],o.toList⟩ acc)) N) : evQ P B (.v (.bool true)) s false ins c o l σ acc N:=⟨(fun e=>by cases e),fun _=>h⟩
instance i_q_tf {s : Nat} : Stp (evG P B l (hold (Env.put (skipUpd o) σ)) (hold (push ⟨[s],o.toList⟩ acc)) N) (evQ P B (.v (.bool true)) s false ins c o l σ acc N):=⟨q_tf⟩
theorem q_ft {s : Nat} (h : evG P B l (hold (Env.put (skipUpd o) σ)) (hold (push ⟨[s],o.toList⟩ acc)) N) : evQ P B (.v (.bool false)) s true ins c o l σ acc N:=⟨(fun e=>by cases e),fun _=>h⟩
instance i_q_ft {s : Nat} : Stp (evG P B l (hold (Env.put (skipUpd o) σ)) (hold (push ⟨[s],o.toList⟩ acc)) N) (evQ P B (.v (.bool false)) s true ins c o l σ acc N):=⟨q_ft⟩
theorem q_undef {s : Nat} {v : Bool} (h : evG P B l (hold (Env.put (skipUpd o) σ)) (hold (push ⟨[s],o.toList⟩ acc)) N) : evQ P B (.v undef) s v ins c o l σ acc N:=h
instance i_q_undef {s : Nat} {v : Bool} : Stp (evG P B l (hold (Env.put (skipUpd o) σ)) (hold (push ⟨[s],o.toList⟩ acc)) N) (evQ P B (.v undef) s v ins c o l σ acc N):=⟨q_undef⟩
theorem q_split {s : Nat} {q v : Bool} (h1 : q = v → evS P B [s] o.toList ins c l σ acc N) (h2 : (q = !v) → evG P B l (hold (Env.put (skipUpd o) σ)) (hold (push ⟨[s],o.toList⟩ acc)) N) : evQ P B (.v (.bool q)) s v ins c o l σ acc N:=⟨h1,h2⟩
theorem q_splitPt {s : Nat} {p : Prop} [Decidable p] (h1 : decide p = true → p → evS P B [s] o.toList ins c l σ acc N) (h2 : decide p = false → ¬ p → evG P B l (hold (Env.put (skipUpd o) σ)) (hold (push ⟨[s],o.toList⟩ acc)) N) :
  evQ P B (.v (.bool (decide p))) s true ins c o l σ acc N:=⟨fun h=>h1 h (of_decide_eq_true h),fun h=>h2 h (of_decide_eq_false h)⟩
instance i_q_splitPt {s : Nat} {p : Prop} [Decidable p] : Spl (decide p = true) (p) (evS P B [s] o.toList ins c l σ acc N) (decide p = false) (¬ p) (evG P B l (hold (Env.put (skipUpd o) σ)) (hold (push ⟨[s],o.toList⟩ acc)) N) (evQ P B (.v (.bool (decide p))) s true ins c o l σ acc N):=⟨q_splitPt⟩
theorem q_splitPf {s : Nat} {p : Prop} [Decidable p] (h1 : decide p = false → ¬ p → evS P B [s] o.toList ins c l σ acc N) (h2 : decide p = true → p → evG P B l (hold (Env.put (skipUpd o) σ)) (hold (push ⟨[s],o.toList⟩ acc)) N) :
  evQ P B (.v (.bool (decide p))) s false ins c o l σ acc N:=⟨fun h=>h1 h (of_decide_eq_false h),fun h=>h2 h (of_decide_eq_true h)⟩
instance i_q_splitPf {s : Nat} {p : Prop} [Decidable p] : Spl (decide p = false) (¬ p) (evS P B [s] o.toList ins c l σ acc N) (decide p = true) (p) (evG P B l (hold (Env.put (skipUpd o) σ)) (hold (push ⟨[s],o.toList⟩ acc)) N) (evQ P B (.v (.bool (decide p))) s false ins c o l σ acc N):=⟨q_splitPf⟩
theorem q_splitEt {s : Nat} {x y : Int} (h1 : (x == y) = true → x = y → evS P B [s] o.toList ins c l σ acc N) (h2 : (x == y) = false → ¬ x = y → evG P B l (hold (Env.put (skipUpd o) σ)) (hold (push ⟨[s],o.toList⟩ acc)) N) :
  evQ P B (.v (.bool (x == y))) s true ins c o l σ acc N:=⟨fun h=>h1 h (by simpa using h),fun h=>h2 h (by simpa using h)⟩
instance i_q_splitEt {s : Nat} {x y : Int} : Spl ((x == y) = true) (x = y) (evS P B [s] o.toList ins c l σ acc N) ((x == y) = false) (¬ x = y) (evG P B l (hold (Env.put (skipUpd o) σ)) (hold (push ⟨[s],o.toList⟩ acc)) N) (evQ P B (.v (.bool (x == y))) s true ins c o l σ acc N):=⟨q_splitEt⟩
theorem q_splitEf {s : Nat} {x y : Int} (h1 : (x == y) = false → ¬ x = y → evS P B [s] o.toList ins c l σ acc N) (h2 : (x == y) = true → x = y → evG P B l (hold (Env.put (skipUpd o) σ)) (hold (push ⟨[s],o.toList⟩ acc)) N) :
  evQ P B (.v (.bool (x == y))) s false ins c o l σ acc N:=⟨fun h=>h1 h (by simpa using h),fun h=>h2 h (by simpa using h)⟩
instance i_q_splitEf {s : Nat} {x y : Int} : Spl ((x == y) = false) (¬ x = y) (evS P B [s] o.toList ins c l σ acc N) ((x == y) = true) (x = y) (evG P B l (hold (Env.put (skipUpd o) σ)) (hold (push ⟨[s],o.toList⟩ acc)) N) (evQ P B (.v (.bool (x == y))) s false ins c o l σ acc N):=⟨q_splitEf⟩
theorem q_splitNt {s : Nat} {x y : Int} (h1 : (x != y) = true → ¬ x = y → evS P B [s] o.toList ins c l σ acc N) (h2 : (x != y) = false → x = y → evG P B l (hold (Env.put (skipUpd o) σ)) (hold (push ⟨[s],o.toList⟩ acc)) N) :
  evQ P B (.v (.bool (x != y))) s true ins c o l σ acc N:=⟨fun h=>h1 h (by simpa using h),fun h=>h2 h (by simpa using h)⟩
instance i_q_splitNt {s : Nat} {x y : Int} : Spl ((x != y) = true) (¬ x = y) (evS P B [s] o.toList ins c l σ acc N) ((x != y) = false) (x = y) (evG P B l (hold (Env.put (skipUpd o) σ)) (hold (push ⟨[s],o.toList⟩ acc)) N) (evQ P B (.v (.bool (x != y))) s true ins c o l σ acc N):=⟨q_splitNt⟩
theorem q_splitNf {s : Nat} {x y : Int} (h1 : (x != y) = false → x = y → evS P B [s] o.toList ins c l σ acc N) (h2 : (x != y) = true → ¬ x = y → evG P B l (hold (Env.put (skipUpd o) σ)) (hold (push ⟨[s],o.toList⟩ acc)) N) :
  evQ P B (.v (.bool (x != y))) s false ins c o l σ acc N:=⟨fun h=>h1 h (by simpa using h),fun h=>h2 h (by simpa using h)⟩
instance i_q_splitNf {s : Nat} {x y : Int} : Spl ((x != y) = false) (x = y) (evS P B [s] o.toList ins c l σ acc N) ((x != y) = true) (¬ x = y) (evG P B l (hold (Env.put (skipUpd o) σ)) (hold (push ⟨[s],o.toList⟩ acc)) N) (evQ P B (.v (.bool (x != y))) s false ins c o l σ acc N):=⟨q_splitNf⟩
theorem Fz.pureL {w : World} {F : Cells} {m : Names} {ds : List D} {xs : List Value} (hp : D.purL ds = true) (h : ∀ (i : Nat) (d : D) (x : Value),ds[i]? = some d → xs[i]? = some x → Fz w F m d x) (m' : Names) :
  ∀ (i : Nat) (d : D) (x : Value),ds[i]? = some d → xs[i]? = some x → Fz w F m' d x:=fun i d x hd hx=>(h i d x hd hx).pure (D.purL_iff.1 hp d (List.mem_of_getElem? hd)) m'
theorem in_yld {G : Ctx} {o : Oper} (hP : G.okP P) {d i e k : Nat} {L : List D} {x : Operand} {X : Opd} {xs : List Opd} {ops : Array Operand} {ts : Array TypeId} (ho : o.op = .call { callee:=.value x,args:=ops,argTypes:=ts }) (hx : opd x = some X) (ha : ops.toList.mapM opd = some xs)
  (hdst : o.dst = some d) (hd : d < G.n) (hv : X.val σ = .v (.func (.yield i) #[] #[])) (hgh : σ gh = .gho i L e k) (hk : k ≤ e) (hL : L[k]? = some (.tup (xs.map (Opd.val σ)))) (hp : D.purL (xs.map (Opd.val σ)) = true) :
  OpOK P G o ⟨X.rd ++ xs.flatMap Opd.rd ++ [gh],[gh,d]⟩ σ [(gh,.gho i L e (k + 1)),(d,.v (.bool (decide (k ≠ e))))] where
 wr p hp:=by
  rcases List.mem_cons.1 hp with rfl | hp
  ·exact List.mem_cons_self ..
  ·obtain rfl:=List.mem_singleton.1 hp; exact List.mem_cons_of_mem _ (List.mem_singleton.2 rfl)
 run τ a w K Q hag hR hK:=by
  intro n
  obtain ⟨hdf,F,m,hR⟩:=hR
  have hag1 : ∀ t,t ∈ X.rd → τ t = σ t:=fun t ht=>hag t (List.mem_append_left _ (List.mem_append_left _ ht))
  have hag2 : ∀ t,t ∈ xs.flatMap Opd.rd → τ t = σ t:=fun t ht=>hag t (List.mem_append_left _ (List.mem_append_right _ ht))
  have hτ : τ gh = .gho i L e k:=(hag gh (List.mem_append_right _ (List.mem_singleton.2 rfl))).trans hgh
  have hxe:=opd_v hR hx hag1 hv
  obtain ⟨h1,h2⟩:=opds_fz hR ha hag2
  obtain ⟨B,hE⟩:=hR.ext
  cases hY : G.Y with
  | none=>exact absurd hτ ((hE.no hY).1 _ _ _ _)
  | some Y=>
   obtain ⟨hlo,⟨k',hJ,hkk⟩,hdis⟩:=hE.yes Y hY
   obtain ⟨rfl,rfl,rfl,rfl⟩:=hkk _ _ _ _ hτ
   obtain ⟨hlo2,hlt⟩:=Y.lt _ _ _ _ _ hJ
   obtain ⟨f,tmps,assign,body,hrun,hround⟩:=Y.call k w F m B _ (ops.toList.map a.eval) hJ hR.wf hk hL hp h1 (Fz.pureL hp h2 noNames)
   rw [hP Y hY] at hrun hround
   have e1 : (ops.toList.map a.eval).toArray = ops.map a.eval:=by apply Array.ext'; simp
   rw [e1] at hrun
   have hr : (execOp a.eval o).run P w = .ok (.round Y.l f tmps assign body) w:=by
    simp [execOp,ho,resolve,hxe,Deferred.ofValue,invoke]
    exact hrun
   have hs:=sem_at hr (fun d e=>by cases e) G.fen
   refine ⟨fun _ _=>trivial,?_⟩
   rw [hs,hr,Oper.uponIn_round]
   refine ⟨fun h=>(by cases h),?_⟩
   refine RoundIn.mono (F:=G.fen) (show RoundIn G.fen (n - 1) P Y.l f tmps assign body w _ from hround (n - 1)) ?_
   rintro e' w' ⟨rfl,F',B',c,wf',hJ',hB'⟩
   refine hK _ _ ⟨by rw [hdst]; exact hdf,F',m,?_⟩
   have hghn : ∀ g,nb ≤ g → ¬ g = gh:=fun g hg e=>by have h3 : (1000000 : Nat) ≤ g:=hg; have h4 : g = 999999:=e; omega
   have base : RelF G (τ.set gh (.gho Y.l Y.L Y.stop (k + 1))) a.tmps w' F' m:=by
    refine ⟨hR.size,hR.nle,fun t ht=>?_,fun g hg=>?_,fun g g' b hg hg' hb hb'=>?_,wf',hR.chg.trans c (fun b hb hlt'=>(hE.own b hb).resolve_right (by omega)),fun g b hg hb=>?_,fun i hi=>?_,hR.nlt,B',?_⟩
    ·by_cases e : t = gh
     ·subst e; rw [Env.set_same]; exact .gho _ _ _ _ _ _
     ·rw [Env.set_ne _ _ _ _ e]; exact (hR.slots t ht).still c
    ·rw [Env.set_ne _ _ _ _ (hghn g hg)]
     exact (hR.blks g hg).stable c (fun _ _ h=>h) (fun e=>by have:=hR.blks g hg; rw [e] at this; exact this) (fun b hb hm=>(hdis g b hg hb hm).1)
    ·rw [Env.set_ne _ _ _ _ (hghn g hg)] at hb
     rw [Env.set_ne _ _ _ _ (hghn g' hg')] at hb'
     exact hR.inj g g' b hg hg' hb hb'
    ·rw [Env.set_ne _ _ _ _ (hghn g hg)] at hb
     exact hR.own g b hg hb
    ·rw [Env.set_ne _ _ _ _ (hghn _ (Nat.le_add_right _ _))]; exact hR.par i hi
    ·refine ⟨fun p hp=>?_,fun b hb=>?_,fun h=>(by rw [hY] at h; cases h),fun Y' hY'=>?_,hE.low⟩
     ·obtain ⟨k1,k2,k3,k4⟩:=hE.kept p hp
      have hlt':=(Array.getElem?_eq_some_iff.1 k1).1
      exact ⟨(c.block _ hlt' k4).trans k1,k2,fun o ho=>k3 o (c.back _ o ho hlt' k4),fun hb=>by rcases hB' _ hb with h | h; exact k4 h; omega⟩
     ·rcases hB' _ hb with h | h
      ·exact hE.own b h
      ·exact .inr (Nat.le_trans hR.chg.size h)
     ·rw [hY] at hY'
      obtain rfl:=Option.some.inj hY'
      refine ⟨hlo,⟨k + 1,hJ',fun l L e k' he=>?_⟩,fun g b hg hb hm=>?_⟩
      ·rw [Env.set_same] at he
       injection he with q1 q2 q3 q4
       exact ⟨q1.symm,q2.symm,q3.symm,q4.symm⟩
      ·rw [Env.set_ne _ _ _ _ (hghn g hg)] at hb
       refine ⟨fun hB=>?_,(hdis g b hg hb hm).2⟩
       rcases hB' _ hB with h | h
       ·exact (hdis g b hg hb hm).1 h
       ·have:=(hR.blks g hg).lt hb hm; omega
   rw [hdst]
   exact base.slot hd (.v _ _)
theorem s_op (hok : hold (ins.ok σ)) (h : evG P B l (hold (Env.put (ins.upd σ) σ)) (hold (push ⟨rd ++ (ins.ent σ).rd,wr ++ (ins.ent σ).wr⟩ acc)) N) : evS P B rd wr ins false l σ acc N:=
 ⟨_,_,fun _ _ _ _ hc=>cop_ok (copc_op hc) (In.ok_okP hok),h⟩
theorem s_call {d f : Nat} {xs : List Opd} (h : evC P B f (hold (xs.map (Opd.val σ))) (hold (xs.flatMap Opd.rd)) d rd wr l σ acc N) : evS P B rd wr (.call d f xs) true l σ acc N:=by
 obtain ⟨H,es,H',r,R,hdo,hc,hds,h⟩:=h
 refine ⟨callE (xs.flatMap Opd.rd) R d,callU R H' d r,fun G _ xo o hcp=>?_,h⟩
 obtain ⟨d',hdst,hd,hcc⟩:=copc_call hcp
 obtain ⟨rfl,hf,ops,ts,ho,ha⟩:=ccall_call hcc
 exact in_call ho hf ha hdst hd hdo hc hds
instance i_s_call {d f : Nat} {xs : List Opd} : Stp (evC P B f (hold (xs.map (Opd.val σ))) (hold (xs.flatMap Opd.rd)) d rd wr l σ acc N) (evS P B rd wr (.call d f xs) true l σ acc N):=⟨s_call⟩
theorem s_cal {d : Nat} {x : Opd} {xs : List Opd} (h : evV P B (hold (x.val σ)) (hold (xs.map (Opd.val σ))) (hold (x.rd ++ xs.flatMap Opd.rd)) d rd wr l σ acc N) : evS P B rd wr (.cal d x xs) true l σ acc N:=by
 unfold hold evV at h
 cases hx : x.val σ with
 | fn f cs=>
  rw [hx] at h
  obtain ⟨hf,H,es,H',r,R,hdo,hc,hds,h⟩:=h
  refine ⟨callE (x.rd ++ xs.flatMap Opd.rd) R d,callU R H' d r,fun G _ xo o hcp=>?_,h⟩
  obtain ⟨d',hdst,hd,hcc⟩:=copc_call hcp
  obtain ⟨rfl,y,ops,ts,ho,hy,ha⟩:=ccall_cal hcc
  exact in_cal ho hy ha hdst hd hx hf hdo hc hds
 | bnd t name e=>
  rw [hx] at h
  obtain ⟨f,e',hm,H,es,H',r,R,hdo,hc,hds,h⟩:=h
  refine ⟨callE (x.rd ++ xs.flatMap Opd.rd) R d,callU R H' d r,fun G _ xo o hcp=>?_,h⟩
  obtain ⟨d',hdst,hd,hcc⟩:=copc_call hcp
  obtain ⟨rfl,y,ops,ts,ho,hy,ha⟩:=ccall_cal hcc
  exact in_calb ho hy ha hdst hd hx hm hdo hc hds
 | mv f e=>
  rw [hx] at h
  obtain ⟨hf,H,es,H',r,R,hdo,hc,hds,h⟩:=h
  refine ⟨callE (x.rd ++ xs.flatMap Opd.rd) R d,callU R H' d r,fun G _ xo o hcp=>?_,h⟩
  obtain ⟨d',hdst,hd,hcc⟩:=copc_call hcp
  obtain ⟨rfl,y,ops,ts,ho,hy,ha⟩:=ccall_cal hcc
  exact in_calm ho hy ha hdst hd hx hf hdo hc hds
 | v y=>
  rw [hx] at h
  obtain ⟨i,L,e,k,rfl,hgh,hk,hL,hp,h⟩:=h
  refine ⟨⟨x.rd ++ xs.flatMap Opd.rd ++ [gh],[gh,d]⟩,[(gh,.gho i L e (k + 1)),(d,.v (.bool (decide (k ≠ e))))],fun G hP xo o hcp=>?_,by simpa [hold] using h⟩
  obtain ⟨d',hdst,hd,hcc⟩:=copc_call hcp
  obtain ⟨rfl,y,ops,ts,ho,hy,ha⟩:=ccall_cal hcc
  exact in_yld hP ho hy ha hdst hd hx hgh hk hL hp
 | _=>rw [hx] at h; exact h.elim
instance i_s_cal {d : Nat} {x : Opd} {xs : List Opd} : Stp (evV P B (hold (x.val σ)) (hold (xs.map (Opd.val σ))) (hold (x.rd ++ xs.flatMap Opd.rd)) d rd wr l σ acc N) (evS P B rd wr (.cal d x xs) true l σ acc N):=⟨s_cal⟩
theorem s_inv {d : Nat} {x : Opd} {name : String} {xs : List Opd} (h : evI P B (hold (x.val σ)) name (hold (xs.map (Opd.val σ))) (hold (x.rd ++ xs.flatMap Opd.rd)) d rd wr l σ acc N) : evS P B rd wr (.inv d x name xs) true l σ acc N:=by
 unfold hold evI at h
 cases hx : x.val σ with
 | ifc t e=>
  rw [hx] at h
  obtain ⟨f,e',hm,H,es,H',r,R,hdo,hc,hds,h⟩:=h
  refine ⟨callE (x.rd ++ xs.flatMap Opd.rd) R d,callU R H' d r,fun G _ xo o hcp=>?_,h⟩
  obtain ⟨d',hdst,hd,hcc⟩:=copc_call hcp
  obtain ⟨rfl,y,ops,ts,ho,hy,ha⟩:=ccall_inv hcc
  exact in_inv ho hy ha hdst hd hx hm hdo hc hds
 | _=>rw [hx] at h; exact h.elim
instance i_s_inv {d : Nat} {x : Opd} {name : String} {xs : List Opd} : Stp (evI P B (hold (x.val σ)) name (hold (xs.map (Opd.val σ))) (hold (x.rd ++ xs.flatMap Opd.rd)) d rd wr l σ acc N) (evS P B rd wr (.inv d x name xs) true l σ acc N):=⟨s_inv⟩
def PreOK (σ : Env) (fr : Upd) (r w : List Nat) : Prop:=(∀ p,p ∈ fr → p.1 ∈ w) ∧ ∀ (G : Ctx) (τ : Env) (a : Act) (x : World),(∀ t,t ∈ r → τ t = σ t) → Rel G τ a x → Rel G (Env.put fr τ) a x
theorem s_pre {fr : Upd} {r1 w1 : List Nat} (hp : PreOK σ fr r1 w1) (h : evS P B (rd ++ r1) (wr ++ w1) ins c l (hold (Env.put fr σ)) acc N) : evS P B rd wr ins c l σ acc N:=by
 obtain ⟨e,upd,hs,h⟩:=h
 refine ⟨⟨r1 ++ e.rd,w1 ++ e.wr⟩,fr ++ upd,fun G hP xo o hcp=>?_,?_⟩
 ·have hop:=hs G hP xo o hcp
  refine ⟨fun p hpp=>?_,fun τ a w K Q hag hR hK n=>?_⟩
  ·rcases List.mem_append.1 hpp with hpp | hpp
   ·exact List.mem_append_left _ (hp.1 p hpp)
   ·exact List.mem_append_right _ (hop.wr p hpp)
  ·refine hop.run (Env.put fr τ) a w K Q (fun t ht=>Env.put_same _ _ _ _ (hag t (List.mem_append_right _ ht))) (hp.2 G τ a w (fun t ht=>hag t (List.mem_append_left _ ht)) hR) (fun a' w' hR'=>hK a' w' ?_) n
   rw [Env.put_append]
   exact hR'
 ·rw [Env.put_append]
  simpa only [List.append_assoc,hold_eq] using h
theorem ren_pure (R : List Nat) : ∀ (d : D),d.pur = true → d.ren R = d
 | .any,_=>rfl
 | .v _,_=>rfl
 | .sl _ _,_=>rfl
 | .nul,_=>rfl
 | .agg cs,h=>by rw [D.ren,renL_pure R cs h]
 | .tup cs,h=>by rw [D.ren,renL_pure R cs h]
 | .ifc t d,h=>by rw [D.ren,ren_pure R d h]
 | .bnd t name d,h=>by rw [D.ren,ren_pure R d h]
 | .mv f d,h=>by rw [D.ren,ren_pure R d h]
 | .fn f cs,h=>by rw [D.ren,renL_pure R cs h]
 | .ptr _,_=>rfl
 | .ref _ _,h=>by cases h
 | .own _ _ _,h=>by cases h
 | .owo _ _ _ _,h=>by cases h
 | .eref _ _ _ _,h=>by cases h
 | .obj _,h=>by cases h
 | .row _ _,h=>by cases h
 | .free,h=>by cases h
  where renL_pure (R : List Nat) : ∀ (l : List D),D.purL l = true → D.renL R l = l
 | [],_=>rfl
 | d :: l,h=>by
  rw [D.purL,Bool.and_eq_true] at h
  rw [D.renL,ren_pure R d h.1,renL_pure R l h.2]
theorem c_does {f : FuncId} {ds : List D} {rds : List Nat} {d : Nat} {r : D} (hdo : Does P f [] ds r []) (hp : D.purL (r :: ds) = true) (h : evG P B l (hold (σ.set d r)) (hold (push ⟨rd ++ (rds ++ []),wr ++ ([] ++ [d])⟩ acc)) N) : evC P B f ds rds d rd wr l σ acc N:=by
 rw [D.purL,Bool.and_eq_true] at hp
 refine ⟨[],ds,[],r,[],hdo,⟨rfl,Nat.le_refl _,List.nodup_nil,(fun g hg=>by cases hg),(fun i d g h=>by simp at h),(fun i g _ h=>by simp at h)⟩,?_,?_⟩
 ·rw [← D.renL_map,ren_pure.renL_pure _ _ hp.2]
 ·show evG P B l (Env.put [(d,r.ren [])] σ) _ N
  rw [ren_pure _ _ hp.1]
  exact h
theorem c_doesE {f : FuncId} {ds es : List D} {rds : List Nat} {d : Nat} {r : D} (hdo : Does P f [] es r []) (he : ds = hold es) (hp : hold (D.purL (r :: ds)) = true) (h : evG P B l (hold (σ.set d r)) (hold (push ⟨rd ++ (rds ++ []),wr ++ ([] ++ [d])⟩ acc)) N) : evC P B f ds rds d rd wr l σ acc N:=by
 have he : ds = es:=he
 subst he
 exact c_does hdo hp h
theorem c_doesR {f : FuncId} {ds H es H' : List D} {rds : List Nat} {d : Nat} {r : D} (R : List Nat) (hdo : Does P f H es r H') (hc : CallOK σ R H H') (hds : ds = hold (es.map (D.ren R))) (h : evG P B l (hold (Env.put (callU R H' d r) σ)) (hold (push ⟨rd ++ (rds ++ R),wr ++ (R ++ [d])⟩ acc)) N) :
  evC P B f ds rds d rd wr l σ acc N:=⟨H,es,H',r,R,hdo,hc,hds,h⟩
def oldOk (σ : Env) (R : List Nat) : List Nat → List D → Prop
 | _,[]=>True
 | [],_ :: _=>False
 | g :: l,d :: ds=>(d.isBlk = true ∧ σ g = d.ren R) ∧ oldOk σ R l ds
def newOk (σ : Env) : List Nat → Prop
 | []=>True
 | g :: l=>σ g = .free ∧ newOk σ l
theorem callOK_of {R : List Nat} {H H' : List D} (hl : R.length = H'.length) (hle : H.length ≤ H'.length) (hR : canB 0 R = true) (ho : hold (oldOk σ R R H)) (hn : hold (newOk σ (R.drop H.length))) : CallOK σ R H H' := by
  have ho : oldOk σ R R H := ho
  have hn : newOk σ (R.drop H.length) := hn
  have hcan := can_of hR
  refine ⟨hl, hle, hcan.nd, hcan.ge, ?_, ?_⟩
  · clear hl hle hR hn hcan
    have : ∀ (L : List Nat) (H : List D), oldOk σ R L H → ∀ (i : Nat) (d : D) (g : Nat), H[i]? = some d → L[i]? = some g → d.isBlk = true ∧ σ g = d.ren R := by
      intro L
      induction L with
      | nil => intro H h i d g _ hg; simp at hg
      | cons g0 L ih =>
        intro H h i d g hd hg
        cases H with
        | nil => simp at hd
        | cons d0 H =>
          cases i with
          | zero =>
            obtain rfl : d0 = d := by simpa using hd
            obtain rfl : g0 = g := by simpa using hg
            exact h.1
          | succ i => exact ih H h.2 i d g (by simpa using hd) (by simpa using hg)
    exact this R H ho
  · intro i g hi hg
    have h1 : (R.drop H.length)[i - H.length]? = some g := by rw [List.getElem?_drop, show H.length + (i - H.length) = i by omega]; exact hg
    revert h1 hn
    generalize R.drop H.length = L
    intro hn h1
    have : ∀ (L : List Nat), newOk σ L → ∀ (i g : Nat), L[i]? = some g → σ g = .free := by
      intro L
      induction L with
      | nil => intro _ i g h; simp at h
      | cons g0 L ih =>
        intro h i g hg
        cases i with
        | zero => obtain rfl : g0 = g := by simpa using hg
                  exact h.1
        | succ i => exact ih h.2 i g (by simpa using hg)
    exact this L hn _ _ h1
theorem v_fn {ds cs : List D} {f d : Nat} {rds : List Nat} (hf : enters P f = true) (h : evC P B f (ds ++ cs) rds d rd wr l σ acc N) : evV P B (.fn f cs) ds rds d rd wr l σ acc N:=⟨hf,h⟩
theorem gis_ok {xo : List Nat} {ops : Array Oper} (hP : G.okP P) : ∀ (l : List Oper) (gis : List GI) (i : Nat) (σ : Env) (acc : Option (List Ent)),ops.toList.drop i = l → i ≤ ops.size → cgis P G.n xo ops l = some gis → evG P B gis σ acc N →
  ∃ es : List Entry,Chain P ops G i σ es ∧ N (stOf es (fun _=>true) i σ) ∧ ∀ a,acc = some a → okPairs B 0 (a.reverse ++ es.map (·.1)) = true
 | [],gis,i,σ,acc,hl,hi,h,hev=>by
  obtain rfl : [] = gis:=by simpa [cgis] using h
  refine ⟨[],?_,hev.2,fun a ha=>?_⟩
  ·show i = ops.size
   have:=congrArg List.length hl
   simp at this
   omega
  ·subst ha
   simpa using hev.1
 | o :: l,gis,i,σ,acc,hl,hi,h,hev=>by
  simp only [cgis,Option.bind_eq_some_iff,Option.some.injEq] at h
  obtain ⟨gi,hgi,m,hm,rfl⟩:=h
  have hlen:=congrArg List.length hl
  simp at hlen
  have hoi : ops[i]? = some o:=by
   have : (ops.toList.drop i)[0]? = some o:=by rw [hl]; rfl
   simpa using this
  have hnext : ops.toList.drop (i + 1) = l:=by
   rw [← List.tail_drop,hl]
   rfl
  obtain ⟨e,upd,hst,hev⟩:=hev
  obtain ⟨es,hch,hN,hok⟩:=gis_ok hP l m (i + 1) _ _ hnext (by omega) hm hev
  refine ⟨(e,upd) :: es,⟨hst G hP xo ops i o hoi hgi,hch⟩,hN,fun a ha=>?_⟩
  have:=hok (e :: a) (by rw [ha]; rfl)
  simpa using this
end
end
section
open Go.RowKit
inductive DC where
 | skip
 | reg (gis : List GI) (B : Option (List Nat))
 | seq (a b : DC)
 | cond (c : Opd) (a b : DC)
 | block (id : Nat) (c : DC)
 | loop (c : DC)
 | exit (id : Nat)
 | ret
 /-- A range over a function. -/
 | rng (x : Opd) (ps : List Nat) (a b : DC)
 /-- What is not read: nothing holds of it. -/
 | no
def acc0 : Option (List Nat) → Option (List Ent)
 | some _=>some []
 | none=>none
def Yields (P : Program) (f : FuncId) (caps L : List D) : Prop:=
 ∀ (Y : YC) (w : World) (F : Cells) (m : Names) (B : Blocks) (xs : List Value),Y.P = P → Y.L = L → (∀ k w F m m' B,Y.J k w F m B → Y.J k w F m' B) → Y.J 0 w F m B → (∀ b o,F b o → b < w.heap.size) → xs.length = caps.length →
  (∀ (i : Nat) (d : D) (x : Value),caps[i]? = some d → xs[i]? = some x → Fz w F noNames d x) →
  Calls P f (Value.func (.yield Y.l) #[] #[] :: xs).toArray w (fun e w'=>∃ v F' B' k,e = .returned v ∧ Y.J k w' F' m B' ∧ ((k = L.length ∧ L.length ≤ Y.stop) ∨ (k = Y.stop + 1 ∧ Y.stop < L.length)))
def idL (c : Nat) : List Nat:=(List.range c).map (nb + ·)
def slotsOK (c : Nat) : List (Nat × D) → Prop
 | []=>True
 | p :: l=>(p.1 < gh ∧ p.2.ren (idL c) = p.2) ∧ slotsOK c l
def namesOK (c : Nat) : List (Nat × D) → Prop
 | []=>True
 | p :: l=>(p.1 = gh ∨ (nb ≤ p.1 ∧ p.1 < nb + c ∧ p.2.isBlk = true)) ∧ namesOK c l
def zipU : List Nat → List D → Upd
 | p :: ps,d :: ds=>(p,d) :: zipU ps ds
 | _,_=>[]
def dwp (P : Program) (k : Nat) : DC → Env → (Env → Prop) → (Nat → Env → Prop) → (Env → Prop) → Prop
 | .skip,σ,N,_,_=>N σ
 | .reg gis B,σ,N,_,_=>evG P (B.getD []) gis σ (acc0 B) N
 | .seq a b,σ,N,X,R=>dwp P k a σ (fun τ=>dwp P k b τ N X R) X R
 | .cond c a b,σ,N,X,R=>match c.val σ with
  | .v (.bool q)=>(q = true → dwp P k a σ N X R) ∧ (q = false → dwp P k b σ N X R)
  | _=>False
 | .block id c,σ,N,X,R=>dwp P k c σ N (fun i τ=>if i = id then N τ else X i τ) R
 | .loop c,σ,_,X,R=>∃ (ι : Type) (I : ι → Env) (J : ι → Prop) (m : ι → Nat) (i : ι),J i ∧ Wk k σ (I i) ∧ ∀ i,J i → dwp P k c (I i) (fun τ=>∃ j,J j ∧ m j < m i ∧ Wk k τ (I j)) X R
 | .exit id,σ,_,X,_=>X id σ
 | .ret,σ,_,_,R=>R σ
 | .rng x ps a b,σ,N,X,R=>∃ (f : FuncId) (caps L : List D) (e c0 c : Nat) (sl : List (Nat × D)) (bl : Nat → List (Nat × D)),
   enters P f = true ∧ D.purL caps = true ∧ Yields P f caps L ∧ k ≤ c0 ∧ c0 ≤ c ∧ c < 1000000 ∧ slotsOK c0 sl ∧ (∀ i,namesOK c (bl i)) ∧ x.val (ofL c (bl 0 ++ sl)) = .fn f caps ∧ Wk k σ (ofL c (bl 0 ++ sl)) ∧
   (∀ (i : Nat) (es : List D),L[i]? = some (.tup es) → es.length = ps.length) ∧ (∀ (i : Nat) (d : D),L[i]? = some d → ∃ es,d = .tup es) ∧
   (∀ (i : Nat) (es : List D),i < e → L[i]? = some (.tup es) → D.purL es = true → dwp P c0 a (Env.put (zipU ps es) (ofL c (bl i ++ sl))) (fun τ=>dwp P c0 b τ (fun ρ=>Wk c0 ρ (ofL c (bl (i + 1)))) (fun _ _=>False) (fun _=>False)) (fun _ _=>False) (fun _=>False)) ∧
   (∀ (es : List D),L[e]? = some (.tup es) → D.purL es = true → dwp P c0 a (Env.put (zipU ps es) (ofL c (bl e ++ sl))) (fun τ=>dwp P c0 b τ (fun _=>False) (fun i ρ=>∃ bx,namesOK c bx ∧ Wk c0 ρ (ofL c bx) ∧ X i (ofL c (bx ++ sl))) (fun ρ=>∃ bx,namesOK c bx ∧ Wk c0 ρ (ofL c bx) ∧ R (ofL c (bx ++ sl)))) (fun _ _=>False) (fun _=>False)) ∧
   (L.length ≤ e → N (ofL c (bl L.length ++ sl)))
 | .no,_,_,_,_=>False
def cdc (P : Program) (N : Nat) (xo : List Nat) : Code → Option DC
 | .skip=>some .skip
 | .label _=>some .skip
 | .region _ ops draw=>some (((cgis P N xo ops ops.toList).bind fun gis=>if draw then oif (edgesOk 0 ops.toList) (some (.reg gis (some (clo ops.toList [])))) else some (.reg gis none)).getD .no)
 | .seq a b=>(cdc P N xo a).bind fun x=>(cdc P N xo b).bind fun y=>some (.seq x y)
 | .cond c a b=>(opd c).bind fun C=>(cdc P N xo a).bind fun x=>(cdc P N xo b).bind fun y=>some (.cond C x y)
 | .block id c=>(cdc P N xo c).bind fun x=>some (.block id x)
 | .loop c=>(cdc P N xo c).bind fun x=>some (.loop x)
 | .scope c=>cdc P N xo c
 | .exit id=>some (.exit id)
 | .ret=>some .ret
 | .rangeFunc g ps a c=>(opd g).bind fun x=>(cdc P N xo a).bind fun y=>(cdc P N xo c).bind fun z=>oif (ps.toList.all fun p=>decide (p < N)) (some (.rng x ps.toList y z))
 | _=>some .no
section
variable {P : Program} {G : Ctx}
theorem getD_falses (n k : Nat) : (Array.replicate n false).getD k false = false:=by
 simp only [Array.getD_eq_getD_getElem?,Array.getElem?_replicate]
 split <;> rfl
def GExt (G G' : Ctx) : Prop:=∃ K M,G' = { G with kept:=K,dm:=M } ∧ ∀ p,p ∈ G.kept → p ∈ K
theorem GExt.refl (G : Ctx) : GExt G G:=⟨G.kept,G.dm,rfl,fun _ h=>h⟩
theorem GExt.trans {G G1 G2 : Ctx} (h : GExt G G1) (h1 : GExt G1 G2) : GExt G G2:=by
 obtain ⟨K,M,rfl,hk⟩:=h
 obtain ⟨K',M',rfl,hk'⟩:=h1
 exact ⟨K',M',rfl,fun p hp=>hk' p (hk p hp)⟩
structure Ctx.ok (G : Ctx) (P : Program) : Prop where
 prog : G.okP P
 rcd : ∀ l,G.rnd = some l → ∃ r,(l,Obj.loop r) ∈ G.kept
 mrk : ∀ b,b ∈ G.dm → (b,Obj.deferred (some [])) ∈ G.kept
 nd : G.dm.Nodup
 new : ∀ b,b ∈ G.dm → G.w0.heap.size ≤ b
def post (P : Program) (G : Ctx) (N : Env → Prop) (X : Nat → Env → Prop) (R : Env → Prop) : Exit → Act → World → Prop
 | .normal,a,w=>∃ G' τ,GExt G G' ∧ G'.ok P ∧ Rel G' τ a w ∧ N τ
 | .exit id,a,w=>∃ G' τ,GExt G G' ∧ G'.ok P ∧ Rel G' τ a w ∧ X id τ
 | .ret,a,w=>∃ G' τ,GExt G G' ∧ G'.ok P ∧ Rel G' τ a w ∧ R τ
 | _,_,_=>False
theorem post.ext {G G' : Ctx} {N : Env → Prop} {X : Nat → Env → Prop} {R : Env → Prop} (hG : GExt G G') {e : Exit} {a : Act} {w : World} (h : post P G' N X R e a w) : post P G N X R e a w:=by
 cases e with
 | normal=>obtain ⟨G2,τ,h1,h2⟩:=h; exact ⟨G2,τ,hG.trans h1,h2⟩
 | exit id=>obtain ⟨G2,τ,h1,h2⟩:=h; exact ⟨G2,τ,hG.trans h1,h2⟩
 | ret=>obtain ⟨G2,τ,h1,h2⟩:=h; exact ⟨G2,τ,hG.trans h1,h2⟩
 | _=>exact h
theorem line_ok {ops : Array Oper} {Q : Exit → Act → World → Prop} (n : Nat) : ∀ (es : List Entry) (i : Nat) (σ : Env) (a : Act) (w : World),Chain P ops G i σ es → Rel G σ a w →
  (∀ a' w',Rel G (stOf es (fun _=>true) i σ) a' w' → Q .normal a' w') → wpOpsIn G.fen n P ops Q (List.range' i (ops.size - i)) a w
 | [],i,σ,a,w,hc,hR,hQ=>by
  have hi : i = ops.size:=hc
  rw [hi,Nat.sub_self]
  exact hQ a w hR
 | e :: es,i,σ,a,w,hc,hR,hQ=>by
  have hsz:=hc.size
  rw [List.length_cons] at hsz
  rw [show ops.size - i = (ops.size - (i + 1)) + 1 by omega,List.range'_succ,wpOpsIn_cons]
  exact hc.1.run σ a w _ Q (fun t _=>rfl) hR (fun a' w' hR'=>line_ok n es (i + 1) _ a' w' hc.2 hR' hQ) n
theorem stepR_scope {b : Frame} {a : Act} {k : List Item} {cs : List Frame} {w : World} {c : Code} : step P (lone (b.atR a (.code (.scope c) :: k)) cs w) = .next (lone (b.atR a (.code c :: .inScope c :: k)) cs w):=
 step_lone_go (by simp [stepG,stepG.exec,Frame.atR])
theorem stepR_inScope {b : Frame} {a : Act} {k : List Item} {cs : List Frame} {w : World} {c : Code} : step P (lone (b.atR a (.inScope c :: k)) cs w) = .next (lone (b.atR a k) cs w):=
 step_lone_go (by simp [stepG,stepG.exec,Frame.atR])
theorem wpIn_scope {F : Fence} {n : Nat} {c : Code} {Q : Exit → Act → World → Prop} {a : Act} {w : World} (h : c.wpIn F n P (Exit.noGoto Q) a w) : (Code.scope c).wpIn F n P Q a w:=by
 intro b k cs hro hb hr
 have h0 : (lone (b.atR a (.code (.scope c) :: k)) cs w).fenced P F:=fenced_calm hb hr rfl
 obtain ⟨e,a₁,w₁,hq,harr⟩:=h b (.inScope c :: k) cs hro hb hr
 cases e with
 | normal=>exact ⟨.normal,a₁,w₁,hq,.head h0 stepR_scope (StepsIn.trans harr (.one (fenced_calm hb hr rfl) stepR_inScope))⟩
 | exit id=>
  have hx : exitTo id (.inScope c :: k) = exitTo id k:=by simp [exitTo]
  exact ⟨.exit id,a₁,w₁,hq,fun k' hk=>.head h0 stepR_scope (harr.1 k' (by rw [hx]; exact hk)),
   fun hr' hk=>let ⟨k₁,h1,h2⟩:=harr.2 hr' (by rw [hx]; exact hk); ⟨k₁,h1,.head h0 stepR_scope h2⟩⟩
 | goto l=>exact hq.elim
 | ret=>exact ⟨_,a₁,w₁,hq,.of_steps (.one h0 stepR_scope) harr⟩
 | panic ch=>exact ⟨_,a₁,w₁,hq,.of_steps (.one h0 stepR_scope) harr⟩
 | outgrown=>exact ⟨_,a₁,w₁,hq,.of_steps (.one h0 stepR_scope) harr⟩
/-! ### A range over a function -/
def setK (l : Nat) (o : Obj) (K : List (Nat × Obj)) : List (Nat × Obj):=K.map fun p=>if p.1 = l then (l,o) else p
theorem mem_setK {l : Nat} {o : Obj} {K : List (Nat × Obj)} {p : Nat × Obj} (hp : p ∈ K) (hl : p.1 ≠ l) : p ∈ setK l o K:=
 List.mem_map.2 ⟨p,hp,by rw [if_neg hl]⟩
theorem mem_setK_l {l : Nat} {o o' : Obj} {K : List (Nat × Obj)} (hp : (l,o') ∈ K) : (l,o) ∈ setK l o K:=
 List.mem_map.2 ⟨(l,o'),hp,by rw [if_pos rfl]⟩
theorem of_mem_setK {l : Nat} {o : Obj} {K : List (Nat × Obj)} {p : Nat × Obj} (hp : p ∈ setK l o K) : p = (l,o) ∨ (p ∈ K ∧ p.1 ≠ l):=by
 obtain ⟨q,hq,h⟩:=List.mem_map.1 hp
 by_cases e : q.1 = l
 ·rw [if_pos e] at h; exact .inl h.symm
 ·rw [if_neg e] at h; subst h; exact .inr ⟨hq,e⟩
theorem Chg.putObj {w : World} {F : Cells} {l : Nat} {o1 o2 : Obj} (h : w.heap[l]? = some o1) (h1 : isRow o1 = false) (_ : isRow o2 = false) (hF : ∀ o,¬ F l o) : Chg w F (fun b=>b = l) (w.putObj l o2) F where
 os:=rfl
 tape:=rfl
 output:=rfl
 size:=by rw [World.putObj_size]; exact Nat.le_refl _
 block b _ hn:=World.putObj_heap_other hn
 shape b cur U z hb:=by
  by_cases e : b = l
  ·subst e; rw [h] at hb; obtain rfl:=Option.some.inj hb; cases h1
  ·exact ⟨cur,by rw [World.putObj_heap_other e]; exact hb,rfl⟩
 keep b o hf:=by
  refine ⟨hf,?_⟩
  have e : b ≠ l:=fun e=>hF o (e ▸ hf)
  simp only [World.cell?]
  rw [World.putObj_heap_other e]
 back b o hf _ _:=hf
theorem setK_id {l : Nat} {o : Obj} {K : List (Nat × Obj)} (h : ∀ p,p ∈ K → p.1 ≠ l) : setK l o K = K:=by
 unfold setK
 conv=>rhs; rw [← List.map_id K]
 exact List.map_congr_left (fun p hp=>by rw [if_neg (h p hp)]; rfl)
theorem RelF.rekept {tm : Array Value} {F : Cells} {m : Names} {w : World} {σ : Env} {B : Blocks} (h : RelF G σ tm w F m) (hE : ExtB G σ w F m B) {l : Nat} {o1 o2 : Obj} (hl : (l,o1) ∈ G.kept) (h2 : isRow o2 = false) (hl0 : G.R0 l ∨ G.w0.heap.size ≤ l) :
  RelF { G with kept:=setK l o2 G.kept } σ tm (w.putObj l o2) F m ∧ ExtB { G with kept:=setK l o2 G.kept } σ (w.putObj l o2) F m B:=by
 obtain ⟨k1,k2,k3,k4⟩:=hE.kept _ hl
 have c:=Chg.putObj k1 k2 h2 k3
 have hne : ∀ g b,nb ≤ g → (σ g).isBlk = true → m g = some (some b) → ¬ b = l:=fun g b hg hb hm e=>by
  obtain ⟨cur,U,hc⟩:=(h.blks g hg).isRow hb hm
  have k1' : w.heap[l]? = some o1:=k1
  rw [e,k1'] at hc
  obtain rfl:=Option.some.inj hc
  cases k2
 have wf' : ∀ b o,F b o → b < (w.putObj l o2).heap.size:=fun b o hf=>by rw [World.putObj_size]; exact h.wf b o hf
 have hE' : ExtB { G with kept:=setK l o2 G.kept } σ (w.putObj l o2) F m B:=by
  refine ⟨fun p hp=>?_,hE.own,hE.no,fun Y hY=>?_,fun Y hY p hp=>?_⟩
  ·rcases of_mem_setK hp with rfl | ⟨hp,hn⟩
   ·exact ⟨World.putObj_heap_same (Array.getElem?_eq_some_iff.1 k1).1,h2,k3,k4⟩
   ·obtain ⟨q1,q2,q3,q4⟩:=hE.kept p hp
    exact ⟨(World.putObj_heap_other hn).trans q1,q2,q3,q4⟩
  ·obtain ⟨hlo,⟨k,hJ,hk⟩,hd⟩:=hE.yes Y hY
   exact ⟨hlo,⟨k,Y.stable _ _ _ _ _ _ _ _ _ hJ c wf' (fun b hb=>by have hb : b = l:=hb; rw [hb]; exact ⟨k4,hE.low Y hY (l,o1) hl⟩) (fun _ _=>rfl),hk⟩,hd⟩
  ·rcases of_mem_setK hp with rfl | ⟨hp,_⟩
   ·exact hE.low Y hY (l,o1) hl
   ·exact hE.low Y hY p hp
 refine ⟨⟨h.size,h.nle,fun t ht=>(h.slots t ht).still c,fun g hg=>(h.blks g hg).stable c (fun _ _ h=>h) (fun e=>by have:=h.blks g hg; rw [e] at this; exact this) (fun b hb hm=>hne g b hg hb hm),h.inj,wf',h.chg.trans c (fun b hb hlt=>?_),h.own,h.par,h.nlt,B,hE'⟩,hE'⟩
 subst hb
 exact hl0.resolve_right (by omega)
theorem RelF.outside {tm : Array Value} {F F' : Cells} {m : Names} {w w' : World} {σ : Env} {B T : Blocks} (h : RelF G σ tm w F m) (hE : ExtB G σ w F m B) (c : Chg w F T w' F') (wf : ∀ b o,F' b o → b < w'.heap.size)
  (hT : ∀ b,T b → (∀ g,nb ≤ g → (σ g).isBlk = true → m g ≠ some (some b)) ∧ ¬ B b ∧ (∀ p,p ∈ G.kept → p.1 ≠ b) ∧ (∀ Y,G.Y = some Y → Y.lo ≤ b) ∧ (b < G.w0.heap.size → G.R0 b)) : RelF G σ tm w' F' m ∧ ExtB G σ w' F' m B:=by
 have hE' : ExtB G σ w' F' m B:=by
  refine ⟨fun p hp=>?_,hE.own,hE.no,fun Y hY=>?_,hE.low⟩
  ·obtain ⟨q1,q2,q3,q4⟩:=hE.kept p hp
   have hlt:=(Array.getElem?_eq_some_iff.1 q1).1
   have hn : ¬ T p.1:=fun ht=>(hT _ ht).2.2.1 p hp rfl
   exact ⟨(c.block _ hlt hn).trans q1,q2,fun o ho=>q3 o (c.back _ o ho hlt hn),q4⟩
  ·obtain ⟨hlo,⟨k,hJ,hk⟩,hd⟩:=hE.yes Y hY
   exact ⟨hlo,⟨k,Y.stable _ _ _ _ _ _ _ _ _ hJ c wf (fun b hb=>⟨(hT b hb).2.1,(hT b hb).2.2.2.1 Y hY⟩) (fun _ _=>rfl),hk⟩,hd⟩
 exact ⟨⟨h.size,h.nle,fun t ht=>(h.slots t ht).still c,fun g hg=>(h.blks g hg).stable c (fun _ _ h=>h) (fun e=>by have:=h.blks g hg; rw [e] at this; exact this) (fun b hb hm ht=>(hT b ht).1 g hg hb hm),h.inj,wf,h.chg.trans c (fun b hb hlt=>(hT b hb).2.2.2.2 hlt),h.own,h.par,h.nlt,B,hE'⟩,hE'⟩
theorem RelF.addKept {tm : Array Value} {F : Cells} {m : Names} {w w' : World} {σ : Env} {B : Blocks} (h : RelF G σ tm w F m) (hE : ExtB G σ w F m B) (c : Chg w F noBlocks w' F) {K : List (Nat × Obj)} (M : List Nat)
  (hK : ∀ p,p ∈ K → w.heap.size ≤ p.1 ∧ w'.heap[p.1]? = some p.2 ∧ isRow p.2 = false) : RelF { G with kept:=K ++ G.kept,dm:=M } σ tm w' F m ∧ ExtB { G with kept:=K ++ G.kept,dm:=M } σ w' F m B:=by
 have wf' : ∀ b o,F b o → b < w'.heap.size:=fun b o hf=>Nat.lt_of_lt_of_le (h.wf b o hf) c.size
 obtain ⟨h1,hE1⟩:=h.outside hE c wf' (fun _ hb=>hb.elim)
 have hE' : ExtB { G with kept:=K ++ G.kept,dm:=M } σ w' F m B:=by
  refine ⟨fun p hp=>?_,hE1.own,hE1.no,hE1.yes,fun Y hY p hp=>?_⟩
  ·rcases List.mem_append.1 hp with hp | hp
   ·obtain ⟨q1,q2,q3⟩:=hK p hp
    refine ⟨q2,q3,fun o ho=>by have:=h.wf _ _ ho; omega,fun hb=>?_⟩
    cases hY : G.Y with
    | none=>exact (hE.no hY).2 _ hb
    | some Y=>
     obtain ⟨_,⟨k,hJ,_⟩,_⟩:=hE.yes Y hY
     have:=(Y.lt _ _ _ _ _ hJ).2 _ hb
     omega
   ·exact hE1.kept p hp
  ·rcases List.mem_append.1 hp with hp | hp
   ·obtain ⟨_,⟨k,hJ,_⟩,_⟩:=hE.yes Y hY
    have:=(Y.lt _ _ _ _ _ hJ).1
    have:=(hK p hp).1
    omega
   ·exact hE1.low Y hY p hp
 exact ⟨⟨h1.size,h1.nle,h1.slots,h1.blks,h1.inj,h1.wf,h1.chg,h1.own,h1.par,h1.nlt,B,hE'⟩,hE'⟩
theorem zipU_slots {G : Ctx} : ∀ (ps : List Nat) (es : List D) (xs : List Value) (σ : Env) (tm : Array Value) {w : World} {F : Cells} {m : Names},(∀ p,p ∈ ps → p < G.n) → es.length = ps.length → xs.length = ps.length →
  (∀ (i : Nat) (d : D) (x : Value),es[i]? = some d → xs[i]? = some x → Fz w F m d x) → RelF G σ tm w F m → RelF G (Env.put (zipU ps es) σ) ((ps.zip xs).foldl (fun t (p : Nat × Value)=>t.setIfInBounds p.1 p.2) tm) w F m
 | [],[],[],σ,tm,w,F,m,_,_,_,_,h=>h
 | p :: ps,d :: es,x :: xs,σ,tm,w,F,m,hp,h1,h2,hf,h=>by
  refine zipU_slots ps es xs _ _ (fun q hq=>hp q (List.mem_cons_of_mem _ hq)) (by simpa using h1) (by simpa using h2) (fun i d x hd hx=>hf (i + 1) d x (by simpa using hd) (by simpa using hx)) (h.slot (hp p (List.mem_cons_self ..)) (hf 0 d x rfl rfl))
def Ctx.lp (G : Ctx) (l : Nat) (K : List (Nat × Obj)) (M : List Nat) (o : Obj) : Ctx:={ G with kept:=(l,o) :: K,dm:=M }
def Ctx.rd (G : Ctx) (l : Nat) (K : List (Nat × Obj)) (o : Obj) (w : World) (F : Cells) (B : Blocks) (c0 : Nat) (m : Names) : Ctx:=
 { n:=G.n,w0:=w,F0:=F,R0:=B,k:=c0,m0:=m,Y:=G.Y,kept:=(l,o) :: K,dm:=[],rnd:=some l }
theorem ofL_app {c : Nat} {sl : List (Nat × D)} : ∀ {bx : List (Nat × D)} (t : Nat),ofL c (bx ++ sl) t = if bx.any (fun p=>p.1 == t) then ofL c bx t else ofL c sl t
 | [],t=>rfl
 | p :: bx,t=>by
  by_cases e : t = p.1
  ·subst e
   rw [List.cons_append,ofL,Env.set_same,ofL,Env.set_same]
   simp
  ·rw [List.cons_append,ofL,Env.set_ne _ _ _ _ e,ofL,Env.set_ne _ _ _ _ e,ofL_app]
   have : (p.1 == t) = false:=by simp; exact fun h=>e h.symm
   rw [List.any_cons,this,Bool.false_or]
theorem namesOK_at {c : Nat} : ∀ {bx : List (Nat × D)},namesOK c bx → ∀ t,bx.any (fun p=>p.1 == t) = true → t = gh ∨ (nb ≤ t ∧ t < nb + c ∧ (ofL c bx t).isBlk = true)
 | [],_,t,h=>by cases h
 | p :: bx,hb,t,h=>by
  by_cases e : t = p.1
  ·subst e
   rcases hb.1 with h1 | h1
   ·exact .inl h1
   ·refine .inr ⟨h1.1,h1.2.1,?_⟩
    rw [ofL,Env.set_same]; exact h1.2.2
  ·have : (p.1 == t) = false:=by simp; exact fun h=>e h.symm
   rw [List.any_cons,this,Bool.false_or] at h
   rcases namesOK_at hb.2 t h with h1 | h1
   ·exact .inl h1
   ·refine .inr ⟨h1.1,h1.2.1,?_⟩
    rw [ofL,Env.set_ne _ _ _ _ e]; exact h1.2.2
theorem slotsOK_at {c0 c : Nat} : ∀ {sl : List (Nat × D)},slotsOK c0 sl → ∀ t,t < nb → (ofL c sl t).ren (idL c0) = ofL c sl t
 | [],_,t,h=>by show (base c t).ren _ = base c t; unfold base; rw [if_pos h]; rfl
 | p :: sl,hs,t,h=>by
  by_cases e : t = p.1
  ·subst e; rw [ofL,Env.set_same]; exact hs.1.2
  ·rw [ofL,Env.set_ne _ _ _ _ e]; exact slotsOK_at hs.2 t h
theorem slotsOK_gh {c0 c : Nat} : ∀ {sl : List (Nat × D)},slotsOK c0 sl → ∀ t,gh ≤ t → ofL c sl t = base c t
 | [],_,_,_=>rfl
 | p :: sl,hs,t,h=>by
  rw [ofL,Env.set_ne _ _ _ _ (by have:=hs.1.1; omega)]; exact slotsOK_gh hs.2 t h
theorem ofL_nm {c c0 : Nat} {bx sl : List (Nat × D)} (hs : slotsOK c0 sl) (t : Nat) (h : gh ≤ t) : ofL c (bx ++ sl) t = ofL c bx t:=by
 rw [ofL_app]
 split
 ·rfl
 ·rename_i hn
  rw [slotsOK_gh hs t h]
  have : ∀ (bx : List (Nat × D)),¬ bx.any (fun p=>p.1 == t) = true → ofL c bx t = base c t:=by
   intro bx
   induction bx with
   | nil=>intro _; rfl
   | cons p bx ih=>
    intro h
    rw [List.any_cons,Bool.or_eq_true,not_or] at h
    have e : ¬ t = p.1:=fun e=>h.1 (by simp [e])
    rw [ofL,Env.set_ne _ _ _ _ e]
    exact ih h.2
  exact (this bx hn).symm
theorem ofL_sl {c : Nat} {bx sl : List (Nat × D)} (hb : namesOK c bx) (t : Nat) (h : t < gh) : ofL c (bx ++ sl) t = ofL c sl t:=by
 rw [ofL_app]
 split
 ·rename_i ha
  rcases namesOK_at hb t ha with h1 | h1
  ·omega
  ·have h2 : (1000000 : Nat) ≤ t:=h1.1
   have h3 : t < 999999:=h
   omega
 ·rfl
theorem ofL_nf {c : Nat} {bx : List (Nat × D)} (hb : namesOK c bx) (i : Nat) (h : i < c) : ofL c bx (nb + i) ≠ .free:=by
 have : ∀ (bx : List (Nat × D)),namesOK c bx → ofL c bx (nb + i) ≠ .free:=by
  intro bx
  induction bx with
  | nil=>intro _ e; have e : base c (nb + i) = .free:=e; unfold base at e; rw [if_neg (by omega),if_pos (by omega)] at e; cases e
  | cons p bx ih=>
   intro hb e
   by_cases e1 : nb + i = p.1
   ·rw [e1,ofL,Env.set_same] at e
    rcases hb.1 with h1 | h1
    ·rw [h1] at e1; have h3 : 1000000 + i = 999999:=e1; omega
    ·rw [e] at h1; cases h1.2.2
   ·rw [ofL,Env.set_ne _ _ _ _ e1] at e
    exact ih hb.2 e
 exact this bx hb
theorem RelF.back {G : Ctx} {l c0 c : Nat} {K K3 : List (Nat × Obj)} {M M3 : List Nat} {o o3 : Obj} {tm tm3 : Array Value} {w w3 : World} {F F3 : Cells} {m m3 : Names} {B Bo B3 : Blocks} {bx b0 sl : List (Nat × D)}
  (h : RelF (G.lp l K M o) (ofL c (b0 ++ sl)) tm w F m) (hE : ExtB (G.lp l K M o) (ofL c (b0 ++ sl)) w F m Bo) (hB : ∀ b,B b → (∃ g,nb ≤ g ∧ (ofL c (b0 ++ sl) g).isBlk = true ∧ m g = some (some b)) ∨ b = l ∨ Bo b)
  (h3 : RelF { G.rd l K o3 w F B c0 m with kept:=K3,dm:=M3 } (ofL c bx) tm3 w3 F3 m3) (hE3 : ExtB { G.rd l K o3 w F B c0 m with kept:=K3,dm:=M3 } (ofL c bx) w3 F3 m3 B3) (hK3 : ∀ p,p ∈ (l,o3) :: K → p ∈ K3)
  (hkc : G.k ≤ c0) (hcc : c0 ≤ c) (hsl : slotsOK c0 sl) (hbx : namesOK c bx) (hb0 : namesOK c b0) (hl : G.w0.heap.size ≤ l) :
  RelF (G.lp l K M o3) (ofL c (bx ++ sl)) tm w3 F3 m3 ∧ ExtB (G.lp l K M o3) (ofL c (bx ++ sl)) w3 F3 m3 B3:=by
 have hbn : ∀ g,nb ≤ g → ofL c (bx ++ sl) g = ofL c bx g:=fun g hg=>ofL_nm hsl g (by have : (1000000 : Nat) ≤ g:=hg; show (999999 : Nat) ≤ g; omega)
 have hown : ∀ b,B b ∨ w.heap.size ≤ b → G.R0 b ∨ G.w0.heap.size ≤ b:=fun b hb=>by
  rcases hb with hb | hb
  ·rcases hB b hb with ⟨g,hg,hgb,hm⟩ | rfl | hbo
   ·exact h.own g b hg hgb hm
   ·exact .inr hl
   ·exact hE.own b hbo
  ·exact .inr (Nat.le_trans h.chg.size hb)
 have hE' : ExtB (G.lp l K M o3) (ofL c (bx ++ sl)) w3 F3 m3 B3:=by
  have hg : ofL c (bx ++ sl) gh = ofL c bx gh:=ofL_nm hsl gh (Nat.le_refl _)
  refine ⟨fun p hp=>hE3.kept p (hK3 p hp),fun b hb=>hown b (hE3.own b hb),fun hY=>?_,fun Y hY=>?_,fun Y hY p hp=>hE3.low Y hY p (hK3 p hp)⟩
  ·rw [hg]; exact hE3.no hY
  ·rw [hg]
   obtain ⟨_,h2,h4⟩:=hE3.yes Y hY
   exact ⟨(hE.yes Y hY).1,h2,fun g b hg' hb hm=>h4 g b hg' (by rw [← hbn g hg']; exact hb) hm⟩
 refine ⟨⟨h.size,h.nle,fun t ht=>?_,fun g hg=>?_,fun g g' b hg hg' hb hb'=>?_,h3.wf,h.chg.trans h3.chg (fun b hb hlt=>(hown b (.inl hb)).resolve_right (by have hlt : b < G.w0.heap.size:=hlt; omega)),fun g b hg hb hm=>?_,fun i hi=>?_,h.nlt,B3,hE'⟩,hE'⟩
 ·by_cases e : t = gh
  ·subst e
   rw [ofL_nm hsl gh (Nat.le_refl _)]
   have:=h3.slots gh (by decide)
   have hn : ∀ (x : Array Value),x.size = G.n → x.getD gh undef = undef:=fun x hx=>by
    have : ¬ gh < x.size:=by have:=h.nlt; have h4 : G.n ≤ gh:=this; omega
    simp [Array.getD,this]
   rw [hn tm3 h3.size] at this
   rw [hn tm h.size]
   exact this
  ·have hlt : t < gh:=by have h4 : t < 1000000:=ht; have h5 : ¬ t = 999999:=e; show t < 999999; omega
   rw [ofL_sl hbx t hlt]
   have h0:=h.slots t ht
   rw [ofL_sl hb0 t hlt] at h0
   have hfix:=slotsOK_at (c:=c) hsl t ht
   have h1 : Fz w F (fun g=>if nb ≤ g ∧ g < nb + c0 then m g else none) (ofL c sl t) (tm.getD t undef):=h0.unren (L:=idL c0) (fun g g' hg=>by
    obtain ⟨q1,q2⟩:=nameOf_some hg
    have hlt:=(List.getElem?_eq_some_iff.1 q2).1
    unfold idL at hlt q2
    rw [List.length_map,List.length_range] at hlt
    rw [List.getElem?_map,List.getElem?_range hlt] at q2
    obtain rfl : nb + (g - nb) = g':=by simpa using q2
    rw [if_pos ⟨q1,by omega⟩,show nb + (g - nb) = g by omega]) hfix
   refine h1.stable h3.chg (fun g p hg=>?_)
   split at hg
   ·rename_i hr
    have:=(h3.par (g - nb) (by show g - nb < c0; omega)).2
    rw [show nb + (g - nb) = g by omega] at this
    rw [this]; exact hg
   ·cases hg
 ·rw [hbn g hg]; exact h3.blks g hg
 ·rw [hbn g hg] at hb
  rw [hbn g' hg'] at hb'
  exact h3.inj g g' b hg hg' hb hb'
 ·rw [hbn g hg] at hb
  exact hown b (h3.own g b hg hb hm)
 ·have hi : i < G.k:=hi
  rw [hbn _ (Nat.le_add_right _ _)]
  refine ⟨ofL_nf hbx i (by omega),?_⟩
  have h1:=(h3.par i (by show i < c0; omega)).2
  have h2:=(h.par i hi).2
  rw [h1]; exact h2
theorem RelF.round {G : Ctx} {l c0 c : Nat} {K : List (Nat × Obj)} {M : List Nat} {o : Obj} {tm : Array Value} {w : World} {F : Cells} {m : Names} {B Bo : Blocks} {b0 sl : List (Nat × D)}
  (h : RelF (G.lp l K M o) (ofL c (b0 ++ sl)) tm w F m) (hE : ExtB (G.lp l K M o) (ofL c (b0 ++ sl)) w F m Bo) (hB : ∀ b,(∃ g,nb ≤ g ∧ (ofL c (b0 ++ sl) g).isBlk = true ∧ m g = some (some b)) ∨ b = l ∨ Bo b → B b)
  (hcc : c0 ≤ c) (hsl : slotsOK c0 sl) (hb0 : namesOK c b0) : RelF (G.rd l K o w F B c0 m) (ofL c (b0 ++ sl)) tm w F m:=by
 refine ⟨h.size,h.nle,h.slots,h.blks,h.inj,h.wf,Chg.refl w F _,fun g b hg hb hm=>.inl (hB b (.inl ⟨g,hg,hb,hm⟩)),fun i hi=>⟨?_,rfl⟩,h.nlt,Bo,hE.kept,fun b hb=>.inl (hB b (.inr (.inr hb))),hE.no,fun Y hY=>?_,hE.low⟩
 ·rw [ofL_nm hsl _ (by show (999999 : Nat) ≤ 1000000 + i; omega)]
  exact ofL_nf hb0 i (by have : i < c0:=hi; omega)
 ·obtain ⟨_,⟨k,hJ,hk⟩,hd⟩:=hE.yes Y hY
  exact ⟨(Y.lt _ _ _ _ _ hJ).1,⟨k,hJ,hk⟩,hd⟩
def lrec (fn : FuncId) (tm : Array Value) (ps : Array Tmp) (asg body : Code) (d : Nat) (st : LoopState) (pe : Option Code) : Loop:={ state:=st,pending:=pe,fn,tmps:=tm,params:=ps,assign:=asg,body,defers:=d }
def LJ (G : Ctx) (l : Nat) (K : List (Nat × Obj)) (M : List Nat) (rc : LoopState → Option Code → Loop) (tm : Array Value) (lo c : Nat) (sl : List (Nat × D)) (bl : Nat → List (Nat × D)) (e : Nat) (X : Nat → Env → Prop) (R : Env → Prop) (k : Nat) (w : World) (F : Cells) (B : Blocks) : Prop:=
 ∃ m Bo st pe bx,RelF (G.lp l K M (.loop (rc st pe))) (ofL c (bx ++ sl)) tm w F m ∧ ExtB (G.lp l K M (.loop (rc st pe))) (ofL c (bx ++ sl)) w F m Bo ∧
  (∀ b,B b ↔ ((∃ g,nb ≤ g ∧ (ofL c (bx ++ sl) g).isBlk = true ∧ m g = some (some b)) ∨ b = l ∨ Bo b)) ∧ lo ≤ w.heap.size ∧ namesOK c bx ∧
  (k ≤ e → st = .ready ∧ pe = none ∧ bx = bl k) ∧ (e < k → st = .done ∧ ((pe = some .ret ∧ R (ofL c (bx ++ sl))) ∨ ∃ id,pe = some (.exit id) ∧ X id (ofL c (bx ++ sl))))
section
variable {l lo c c0 e : Nat} {K : List (Nat × Obj)} {M : List Nat} {rc : LoopState → Option Code → Loop} {tm : Array Value} {sl : List (Nat × D)} {bl : Nat → List (Nat × D)} {X : Nat → Env → Prop} {R : Env → Prop}
theorem LJ.lt {k : Nat} {w : World} {F : Cells} {B : Blocks} (h : LJ G l K M rc tm lo c sl bl e X R k w F B) : lo ≤ w.heap.size ∧ ∀ b,B b → b < w.heap.size:=by
 obtain ⟨m,Bo,st,pe,bx,hR,hE,hB,hlo,_⟩:=h
 refine ⟨hlo,fun b hb=>?_⟩
 rcases (hB b).1 hb with ⟨g,hg,hgb,hm⟩ | rfl | hbo
 ·exact (hR.blks g hg).lt hgb hm
 ·exact (Array.getElem?_eq_some_iff.1 (hE.kept _ (List.mem_cons_self ..)).1).1
 ·cases hY : G.Y with
  | none=>exact ((hE.no hY).2 _ hbo).elim
  | some Y=>
   obtain ⟨_,⟨k,hJ,_⟩,_⟩:=hE.yes Y hY
   exact (Y.lt _ _ _ _ _ hJ).2 _ hbo
theorem LJ.stable (hK : ∀ p,p ∈ K → p.1 ≠ l ∧ p.1 < lo) (hw0 : G.w0.heap.size ≤ lo) (hYlo : ∀ Y,G.Y = some Y → Y.lo ≤ lo) {k : Nat} {w w' : World} {F F' : Cells} {B T : Blocks} (h : LJ G l K M rc tm lo c sl bl e X R k w F B) (hc : Chg w F T w' F') (wf : ∀ b o,F' b o → b < w'.heap.size)
  (hT : ∀ b,T b → ¬ B b ∧ lo ≤ b) : LJ G l K M rc tm lo c sl bl e X R k w' F' B:=by
 obtain ⟨m,Bo,st,pe,bx,hR,hE,hB,hlo,hbx,h1,h2⟩:=h
 obtain ⟨hR',hE'⟩:=hR.outside hE hc wf (fun b hb=>by
  obtain ⟨q1,q2⟩:=hT b hb
  refine ⟨fun g hg hgb hm=>q1 ((hB b).2 (.inl ⟨g,hg,hgb,hm⟩)),fun hbo=>q1 ((hB b).2 (.inr (.inr hbo))),fun p hp he=>?_,fun Y hY=>Nat.le_trans (hYlo Y hY) q2,fun hlt=>by have hlt : b < G.w0.heap.size:=hlt; omega⟩
  rcases List.mem_cons.1 hp with rfl | hp
  ·exact q1 ((hB b).2 (.inr (.inl he.symm)))
  ·have:=(hK p hp).2; omega)
 exact ⟨m,Bo,st,pe,bx,hR',hE',hB,Nat.le_trans hlo hc.size,hbx,h1,h2⟩
end
def CodeOK (P : Program) (xo : List Nat) (c : Code) : Prop:=∀ (dc : DC) (G : Ctx) (σ : Env) (a : Act) (w : World) (N : Env → Prop) (X : Nat → Env → Prop) (R : Env → Prop) (n : Nat),
 G.ok P → cdc P G.n xo c = some dc → Rel G σ a w → dwp P G.k dc σ N X R → c.wpIn G.fen n P (post P G N X R) a w
theorem zip_fold (ps : Array Tmp) (xs : List Value) (tm : Array Value) : (ps.zip xs.toArray).foldl (fun tmps (p : Tmp × Value)=>tmps.setIfInBounds p.1 p.2) tm = (ps.toList.zip xs).foldl (fun t (p : Nat × Value)=>t.setIfInBounds p.1 p.2) tm:=by
 rw [← Array.foldl_toList,Array.toList_zip]
theorem LJ.call {l lo c c0 e : Nat} {K : List (Nat × Obj)} {M : List Nat} {fn : FuncId} {d : Nat} {tm : Array Value} {sl : List (Nat × D)} {bl : Nat → List (Nat × D)} {X : Nat → Env → Prop} {R : Env → Prop} {xo : List Nat} {ps : Array Tmp} {asg body : Code} {y z : DC} {L : List D}
  (hok : G.ok P) (hK : ∀ p,p ∈ K → p.1 ≠ l ∧ p.1 < lo) (hl : G.w0.heap.size ≤ l) (hya : cdc P G.n xo asg = some y) (hzb : cdc P G.n xo body = some z) (hps : ∀ p,p ∈ ps.toList → p < G.n) (iha : CodeOK P xo asg) (ihb : CodeOK P xo body)
  (hkc : G.k ≤ c0) (hcc : c0 ≤ c) (hsl : slotsOK c0 sl) (hbl : ∀ i,namesOK c (bl i)) (hLl : ∀ (i : Nat) (es : List D),L[i]? = some (.tup es) → es.length = ps.toList.length)
  (hround : ∀ (i : Nat) (es : List D),i < e → L[i]? = some (.tup es) → D.purL es = true → dwp P c0 y (Env.put (zipU ps.toList es) (ofL c (bl i ++ sl))) (fun τ=>dwp P c0 z τ (fun ρ=>Wk c0 ρ (ofL c (bl (i + 1)))) (fun _ _=>False) (fun _=>False)) (fun _ _=>False) (fun _=>False))
  (hstop : ∀ (es : List D),L[e]? = some (.tup es) → D.purL es = true → dwp P c0 y (Env.put (zipU ps.toList es) (ofL c (bl e ++ sl))) (fun τ=>dwp P c0 z τ (fun _=>False) (fun i ρ=>∃ bx,namesOK c bx ∧ Wk c0 ρ (ofL c bx) ∧ X i (ofL c (bx ++ sl))) (fun ρ=>∃ bx,namesOK c bx ∧ Wk c0 ρ (ofL c bx) ∧ R (ofL c (bx ++ sl)))) (fun _ _=>False) (fun _=>False))
  {k : Nat} {w : World} {F : Cells} {B : Blocks} {es : List D} {xs : List Value} (hJ : LJ G l K M (lrec fn tm ps asg body d) tm lo c sl bl e X R k w F B) (hk : k ≤ e) (hL : L[k]? = some (.tup es)) (hp : D.purL es = true) (hxl : xs.length = es.length)
  (hxf : ∀ (i : Nat) (d : D) (x : Value),es[i]? = some d → xs[i]? = some x → Fz w F noNames d x) :
  ∃ f tmps assign bd,(Instr.yield l xs.toArray).run P w = .ok (.round l f tmps assign bd) w ∧ ∀ n,RoundIn Fence.wide n P l f tmps assign bd w (fun e' w'=>e' = .returned (.bool (decide (k ≠ e))) ∧
   ∃ F' B',Chg w F B w' F' ∧ (∀ b o,F' b o → b < w'.heap.size) ∧ LJ G l K M (lrec fn tm ps asg body d) tm lo c sl bl e X R (k + 1) w' F' B' ∧ ∀ b,B' b → B b ∨ w.heap.size ≤ b):=by
 obtain ⟨m,Bo,st,pe,bx,hR,hE,hB,hlo,hbx,h1,_⟩:=hJ
 obtain ⟨rfl,rfl,rfl⟩:=h1 hk
 have hel:=hLl k es hL
 have hheap:=(hE.kept _ (List.mem_cons_self ..)).1
 have hBl : B l:=(hB l).2 (.inr (.inl rfl))
 refine ⟨fn,_,asg,body,run_yield hheap (by show xs.toArray.size = ps.size; simpa using hxl.trans hel),fun n=>?_⟩
 refine roundIn_of_wpIn trivial ?_
 have hrd:=hR.round hE (fun b hb=>(hB b).2 hb) hcc hsl hbx
 let Gr : Ctx:=G.rd l K (.loop (lrec fn tm ps asg body d .ready none)) w F B c0 m
 have hokr : Gr.ok P:=⟨hok.prog,fun l' hl'=>(by obtain rfl : l = l':=Option.some.inj hl'; exact ⟨_,List.mem_cons_self ..⟩),fun b hb=>(by cases hb),List.nodup_nil,fun b hb=>(by cases hb)⟩
 have hrel : Rel Gr (Env.put (zipU ps.toList es) (ofL c (bl k ++ sl))) { tmps:=(ps.zip xs.toArray).foldl (fun tmps (p : Tmp × Value)=>tmps.setIfInBounds p.1 p.2) tm,defers:=[] } w:=by
  refine ⟨rfl,F,m,?_⟩
  rw [zip_fold]
  exact zipU_slots (G:=Gr) _ _ _ _ _ hps hel (hxl.trans hel) (fun i d x hd hx=>(hxf i d x hd hx).pure (D.purL_iff.1 hp d (List.mem_of_getElem? hd)) m) hrd
 have main : ∀ (N : Env → Prop) (X' : Nat → Env → Prop) (R' : Env → Prop) (q : Bool),(∀ G3 ρ a3 w3,GExt { Gr with kept:=setK l (.loop (lrec fn tm ps asg body d .busy none)) Gr.kept } G3 → Rel G3 ρ a3 w3 → N ρ → q = true ∧ ∃ bx',namesOK c bx' ∧ Wk c0 ρ (ofL c bx') ∧ k + 1 ≤ e ∧ bx' = bl (k + 1)) →
   (∀ G3 ρ a3 w3 id,GExt { Gr with kept:=setK l (.loop (lrec fn tm ps asg body d .busy none)) Gr.kept } G3 → Rel G3 ρ a3 w3 → X' id ρ → q = false ∧ k = e ∧ ∃ bx',namesOK c bx' ∧ Wk c0 ρ (ofL c bx') ∧ X id (ofL c (bx' ++ sl))) →
   (∀ G3 ρ a3 w3,GExt { Gr with kept:=setK l (.loop (lrec fn tm ps asg body d .busy none)) Gr.kept } G3 → Rel G3 ρ a3 w3 → R' ρ → q = false ∧ k = e ∧ ∃ bx',namesOK c bx' ∧ Wk c0 ρ (ofL c bx') ∧ R (ofL c (bx' ++ sl))) →
   dwp P c0 y (Env.put (zipU ps.toList es) (ofL c (bl k ++ sl))) (fun τ=>dwp P c0 z τ N X' R') (fun _ _=>False) (fun _=>False) →
   asg.wpIn (Fence.wide.inRound l) n P (Exit.then (fun a₁ w₁=>∃ w₂,(Instr.beginRound l).run P w₁ = .ok () w₂ ∧ body.wpIn (Fence.wide.inRound l) n P (roundPost P l (fun e' w'=>e' = .returned (.bool q) ∧
    ∃ F' B',Chg w F B w' F' ∧ (∀ b o,F' b o → b < w'.heap.size) ∧ LJ G l K M (lrec fn tm ps asg body d) tm lo c sl bl e X R (k + 1) w' F' B' ∧ ∀ b,B' b → B b ∨ w.heap.size ≤ b)) a₁ w₂) (fun _ _ _=>False))
   { tmps:=(ps.zip xs.toArray).foldl (fun tmps (p : Tmp × Value)=>tmps.setIfInBounds p.1 p.2) tm,defers:=[] } w:=by
  intro N X' R' q hN hX hR' hd
  refine wpIn_mono (iha y Gr _ _ w _ _ _ n hokr hya hrel hd) ?_
  intro ex a1 w1 hpost
  cases ex with
  | normal=>
   obtain ⟨G1,τ,⟨K1,M1,rfl,hK1⟩,hok1,⟨hdf1,F1,m1,hR1⟩,hd1⟩:=hpost
   obtain ⟨B1,hE1⟩:=hR1.ext
   have hmem1 : (l,Obj.loop (lrec fn tm ps asg body d .ready none)) ∈ K1:=hK1 _ (List.mem_cons_self ..)
   have hh1:=(hE1.kept _ hmem1).1
   refine ⟨_,run_beginRound hh1 rfl,?_⟩
   obtain ⟨hR2,hE2⟩:=hR1.rekept hE1 (o2:=.loop (lrec fn tm ps asg body d .busy none)) hmem1 rfl (.inl hBl)
   have hok2 : Ctx.ok { Gr with kept:=setK l (.loop (lrec fn tm ps asg body d .busy none)) K1,dm:=M1 } P:=by
    refine ⟨hok.prog,fun l' hl'=>?_,fun b hb=>?_,hok1.nd,hok1.new⟩
    ·obtain rfl : l = l':=Option.some.inj hl'
     exact ⟨_,mem_setK_l hmem1⟩
    ·have h4:=hok1.mrk b hb
     refine mem_setK h4 (fun he=>?_)
     have h5:=(hE1.kept _ h4).1
     have he : b = l:=he
     subst he
     have h6 : w1.heap[b]? = some (.deferred (some [])):=h5
     have h7 : w1.heap[b]? = some (.loop (lrec fn tm ps asg body d .ready none)):=hh1
     rw [h7] at h6
     cases h6
   have hG2 : GExt { Gr with kept:=setK l (.loop (lrec fn tm ps asg body d .busy none)) Gr.kept } { Gr with kept:=setK l (.loop (lrec fn tm ps asg body d .busy none)) K1,dm:=M1 }:=by
    refine ⟨_,_,rfl,fun p hp=>?_⟩
    rcases of_mem_setK hp with rfl | ⟨hp,hn⟩
    ·exact mem_setK_l hmem1
    ·exact mem_setK (hK1 p hp) hn
   refine wpIn_mono (ihb z { Gr with kept:=setK l (.loop (lrec fn tm ps asg body d .busy none)) K1,dm:=M1 } τ a1 _ N X' R' n hok2 hzb ⟨hdf1,F1,m1,hR2⟩ hd1) ?_
   -- the round's end
   have fin : ∀ (jump : Option Code) (G3 : Ctx) (ρ : Env) (a3 : Act) (w3 : World) (bx' : List (Nat × D)),GExt { Gr with kept:=setK l (.loop (lrec fn tm ps asg body d .busy none)) K1,dm:=M1 } G3 → Rel G3 ρ a3 w3 → namesOK c bx' → Wk c0 ρ (ofL c bx') →
     (k + 1 ≤ e → jump = none ∧ bx' = bl (k + 1)) → (e < k + 1 → (jump = some .ret ∧ R (ofL c (bx' ++ sl))) ∨ ∃ id,jump = some (.exit id) ∧ X id (ofL c (bx' ++ sl))) →
     (k + 1 ≤ e ∨ jump.isSome = true) →
     ∃ v w',(Instr.endRound l jump).run P w3 = .ok v w' ∧ v = .bool jump.isNone ∧ ∃ F' B',Chg w F B w' F' ∧ (∀ b o,F' b o → b < w'.heap.size) ∧ LJ G l K M (lrec fn tm ps asg body d) tm lo c sl bl e X R (k + 1) w' F' B' ∧ ∀ b,B' b → B b ∨ w.heap.size ≤ b:=by
    intro jump G3 ρ a3 w3 bx' hG3 hR3 hbx' hwk3 hj1 hj2 hj3
    obtain ⟨K3,M3,rfl,hK3⟩:=hG3
    obtain ⟨hdf3,F3,m3,hR3⟩:=hwk3 _ a3 w3 rfl hR3
    obtain ⟨B3,hE3⟩:=hR3.ext
    have hmem3 : (l,Obj.loop (lrec fn tm ps asg body d .busy none)) ∈ K3:=hK3 _ (mem_setK_l hmem1)
    have hh3:=(hE3.kept _ hmem3).1
    have hend:=run_endRound (P:=P) jump hh3
    refine ⟨_,_,hend,rfl,?_⟩
    have hKK : ∀ p,p ∈ (l,Obj.loop (lrec fn tm ps asg body d .busy none)) :: K → p ∈ K3:=fun p hp=>by
     rcases List.mem_cons.1 hp with rfl | hp
     ·exact hmem3
     ·exact hK3 p (mem_setK (hK1 p (List.mem_cons_of_mem _ hp)) (hK p hp).1)
    obtain ⟨hR4,hE4⟩:=RelF.back (o3:=.loop (lrec fn tm ps asg body d .busy none)) hR hE (fun b hb=>(hB b).1 hb) (K3:=K3) (M3:=M3) hR3 hE3 hKK hkc hcc hsl hbx' hbx hl
    obtain ⟨hR5,hE5⟩:=hR4.rekept hE4 (o2:=.loop { lrec fn tm ps asg body d .busy none with state:=if jump.isNone then .ready else .done,pending:=jump }) (List.mem_cons_self ..) rfl (.inr hl)
    have hset : setK l (.loop { lrec fn tm ps asg body d .busy none with state:=if jump.isNone then .ready else .done,pending:=jump }) ((l,.loop (lrec fn tm ps asg body d .busy none)) :: K) = (l,.loop (lrec fn tm ps asg body d (if jump.isNone then .ready else .done) jump)) :: K:=by
     have:=setK_id (o:=.loop { lrec fn tm ps asg body d .busy none with state:=if jump.isNone then .ready else .done,pending:=jump }) (fun p hp=>(hK p hp).1)
     unfold setK at this ⊢
     rw [List.map_cons,this,if_pos rfl]
     rfl
    have hc5 : Chg w F B (w3.putObj l (.loop { lrec fn tm ps asg body d .busy none with state:=if jump.isNone then .ready else .done,pending:=jump })) F3:=by
     obtain ⟨q1,q2,q3,_⟩:=hE3.kept _ hmem3
     exact hR3.chg.trans (Chg.putObj q1 q2 rfl q3) (fun b hb _=>by subst hb; exact hBl)
    refine ⟨F3,fun b=>(∃ g,nb ≤ g ∧ (ofL c (bx' ++ sl) g).isBlk = true ∧ m3 g = some (some b)) ∨ b = l ∨ B3 b,hc5,hR5.wf,⟨m3,B3,if jump.isNone then .ready else .done,jump,bx',?_,?_,fun b=>Iff.rfl,?_,hbx',fun hke=>?_,fun hke=>?_⟩,fun b hb=>?_⟩
    ·have:=hR5
     unfold Ctx.lp at this ⊢
     rw [show ({ G with kept:=(l,Obj.loop (lrec fn tm ps asg body d .busy none)) :: K,dm:=M } : Ctx).kept = (l,Obj.loop (lrec fn tm ps asg body d .busy none)) :: K from rfl,hset] at this
     exact this
    ·have:=hE5
     unfold Ctx.lp at this ⊢
     rw [show ({ G with kept:=(l,Obj.loop (lrec fn tm ps asg body d .busy none)) :: K,dm:=M } : Ctx).kept = (l,Obj.loop (lrec fn tm ps asg body d .busy none)) :: K from rfl,hset] at this
     exact this
    ·exact Nat.le_trans hlo hc5.size
    ·obtain ⟨rfl,rfl⟩:=hj1 hke
     exact ⟨rfl,rfl,rfl⟩
    ·have h8:=hj2 hke
     refine ⟨?_,h8⟩
     rcases h8 with ⟨rfl,_⟩ | ⟨id,rfl,_⟩ <;> rfl
    ·rcases hb with ⟨g,hg,hgb,hm⟩ | rfl | hb3
     ·rw [ofL_nm hsl g (by have h9 : (1000000 : Nat) ≤ g:=hg; show (999999 : Nat) ≤ g; omega)] at hgb
      exact hR3.own g b hg hgb hm
     ·exact .inl hBl
     ·exact hE3.own b hb3
   intro ex3 a3 w3 hp3
   cases ex3 with
   | normal=>
    obtain ⟨G3,ρ,hG3,hok3,hrel3,hn⟩:=hp3
    obtain ⟨rfl,bx',q1,q2,q3,q4⟩:=hN G3 ρ a3 w3 (hG2.trans hG3) hrel3 hn
    obtain ⟨v,w',r1,rfl,r3⟩:=fin none G3 ρ a3 w3 bx' hG3 hrel3 q1 q2 (fun _=>⟨rfl,q4⟩) (fun h=>by omega) (.inl q3)
    exact ⟨_,w',r1,rfl,r3⟩
   | ret=>
    obtain ⟨G3,ρ,hG3,hok3,hrel3,hn⟩:=hp3
    obtain ⟨rfl,rfl,bx',q1,q2,q3⟩:=hR' G3 ρ a3 w3 (hG2.trans hG3) hrel3 hn
    obtain ⟨v,w',r1,rfl,r3⟩:=fin (some .ret) G3 ρ a3 w3 bx' hG3 hrel3 q1 q2 (fun h=>by omega) (fun _=>.inl ⟨rfl,q3⟩) (.inr rfl)
    exact ⟨_,w',r1,rfl,r3⟩
   | exit id=>
    obtain ⟨G3,ρ,hG3,hok3,hrel3,hn⟩:=hp3
    obtain ⟨rfl,rfl,bx',q1,q2,q3⟩:=hX G3 ρ a3 w3 id (hG2.trans hG3) hrel3 hn
    obtain ⟨v,w',r1,rfl,r3⟩:=fin (some (.exit id)) G3 ρ a3 w3 bx' hG3 hrel3 q1 q2 (fun h=>by omega) (fun _=>.inr ⟨id,rfl,q3⟩) (.inr rfl)
    exact ⟨_,w',r1,rfl,r3⟩
   | _=>exact hp3.elim
  | exit id=>obtain ⟨_,_,_,_,_,h⟩:=hpost; exact h.elim
  | ret=>obtain ⟨_,_,_,_,_,h⟩:=hpost; exact h.elim
  | _=>exact hpost.elim
 by_cases hke : k = e
 ·subst hke
  have hq : decide (k ≠ k) = false:=by simp
  rw [hq]
  refine main _ _ _ false (fun _ _ _ _ _ _ h=>h.elim) (fun _ _ _ _ id _ _ h=>?_) (fun _ _ _ _ _ _ h=>?_) (hstop es hL hp)
  ·obtain ⟨bx',q1,q2,q3⟩:=h; exact ⟨rfl,rfl,bx',q1,q2,q3⟩
  ·obtain ⟨bx',q1,q2,q3⟩:=h; exact ⟨rfl,rfl,bx',q1,q2,q3⟩
 ·have hq : decide (k ≠ e) = true:=by simpa using hke
  rw [hq]
  exact main _ _ _ true (fun _ _ _ _ _ _ h=>⟨rfl,bl (k + 1),hbl _,h,by omega,rfl⟩) (fun _ _ _ _ _ _ _ h=>h.elim) (fun _ _ _ _ _ _ h=>h.elim) (hround k es (by omega) hL hp)
theorem rng_ok {σ : Env} {a : Act} {w : World} {xo : List Nat} {g : Operand} {ps : Array Tmp} {asg body : Code} {x : Opd} {y z : DC} {N : Env → Prop} {X : Nat → Env → Prop} {R : Env → Prop} (hx : opd g = some x) (hya : cdc P G.n xo asg = some y) (hzb : cdc P G.n xo body = some z) (hps : ∀ p,p ∈ ps.toList → p < G.n)
  (iha : CodeOK P xo asg) (ihb : CodeOK P xo body) (hok : G.ok P) (hR : Rel G σ a w) (hd : dwp P G.k (.rng x ps.toList y z) σ N X R) (n : Nat) : (Code.rangeFunc g ps asg body).wpIn G.fen n P (post P G N X R) a w:=by
 obtain ⟨f,caps,L,e,c0,c,sl,bl,hf,hcp,hY,hkc,hcc,hc1,hsl,hbl,hxv,hwk,hLl,hLt,hround,hstop,hdone⟩:=hd
 obtain ⟨hdf,F,m,hRF⟩:=hwk G a w rfl hR
 obtain ⟨B0,hE⟩:=hRF.ext
 have hfx:=opd_fz (σ:=ofL c (bl 0 ++ sl)) hRF hx (fun _ _=>rfl)
 rw [hxv] at hfx
 obtain ⟨us,hxe,hul,hus⟩ : ∃ us : List Value,a.eval g = .func (.func f) #[] us.toArray ∧ us.length = caps.length ∧ ∀ (i : Nat) (d : D) (u : Value),caps[i]? = some d → us[i]? = some u → Fz w F m d u:=by
  generalize a.eval g = q at hfx
  cases hfx with
  | fn _ f cs us hl hr=>exact ⟨us,rfl,hl,hr⟩
 have hpur:=Fz.pureL hcp hus noNames
 refine wpIn_rangeFunc (fun fn _=>?_)
 -- the record is laid
 have henter : ∃ (l : Nat) (M : List Nat) (K : List (Nat × Obj)) (w1 : World) (d : Nat),(Instr.enterLoop fn a.tmps ps asg body G.fen.round).run P w = .ok (l,M.map markOf) w1 ∧ w1.heap[l]? = some (.loop (lrec fn a.tmps ps asg body d .ready none)) ∧ Chg w F noBlocks w1 F ∧ w.heap.size ≤ l ∧
   (∀ p,p ∈ K → w.heap.size ≤ p.1 ∧ p.1 ≠ l ∧ w1.heap[p.1]? = some p.2 ∧ isRow p.2 = false) ∧ (∀ b,b ∈ M → (b,Obj.deferred (some [])) ∈ K) ∧ (M ++ G.dm).Nodup:=by
  cases hrn : G.rnd with
  | none=>
   have hfr : G.fen.round = none:=hrn
   rw [hfr]
   have c1:=Chg.alloc0 hRF.wf (.deferred (some []))
   have c2:=Chg.alloc0 (wf_alloc hRF.wf (.deferred (some []))) (.loop (lrec fn a.tmps ps asg body w.heap.size .ready none))
   refine ⟨w.heap.size + 1,[w.heap.size],[(w.heap.size,.deferred (some []))],_,w.heap.size,run_enterLoop_outer fn a.tmps ps asg body,?_,c1.trans c2 (fun _ h=>h.elim),Nat.le_succ _,fun p hp=>?_,fun b hb=>?_,?_⟩
   ·have:=World.alloc_heap_new (w.alloc (.deferred (some []))) (.loop (lrec fn a.tmps ps asg body w.heap.size .ready none))
    rwa [World.size_alloc] at this
   ·obtain rfl:=List.mem_singleton.1 hp
    refine ⟨Nat.le_refl _,by simp,?_,rfl⟩
    exact (c2.block _ (by rw [World.size_alloc]; exact Nat.lt_succ_self _) (fun h=>h)).trans (World.alloc_heap_new w _)
   ·obtain rfl:=List.mem_singleton.1 hb
    exact List.mem_singleton.2 rfl
   ·refine List.nodup_cons.2 ⟨fun hm=>?_,hok.nd⟩
    have:=(Array.getElem?_eq_some_iff.1 (hE.kept _ (hok.mrk _ hm)).1).1
    exact Nat.lt_irrefl _ this
  | some l0=>
   have hfr : G.fen.round = some l0:=hrn
   rw [hfr]
   obtain ⟨r,hr⟩:=hok.rcd l0 hrn
   have hr1:=(hE.kept _ hr).1
   refine ⟨w.heap.size,[],[],_,r.defers,?_,World.alloc_heap_new w (.loop (lrec fn a.tmps ps asg body r.defers .ready none)),Chg.alloc0 hRF.wf _,Nat.le_refl _,fun p hp=>(by cases hp),fun b hb=>(by cases hb),hok.nd⟩
   unfold Instr.enterLoop
   simp only [Sem.run_bind,run_getLoop hr1,Result.andThen,Sem.run_pure,run_newObj_alloc]
   rfl
 obtain ⟨l,M,K,w1,d,hrun,hl1,c1,hwl,hKn,hMk,hnd⟩:=henter
 have hw0 : G.w0.heap.size ≤ w.heap.size:=hRF.chg.size
 have hlw1 : l < w1.heap.size:=(Array.getElem?_eq_some_iff.1 hl1).1
 obtain ⟨hR1,hE1⟩:=hRF.addKept hE c1 (K:=(l,.loop (lrec fn a.tmps ps asg body d .ready none)) :: K) (M ++ G.dm) (fun p hp=>by
  rcases List.mem_cons.1 hp with rfl | hp
  ·exact ⟨hwl,hl1,rfl⟩
  ·exact ⟨(hKn p hp).1,(hKn p hp).2.2⟩)
 have hKl : ∀ p,p ∈ K ++ G.kept → p.1 ≠ l ∧ p.1 < w1.heap.size:=fun p hp=>by
  rcases List.mem_append.1 hp with hp | hp
  ·exact ⟨(hKn p hp).2.1,(Array.getElem?_eq_some_iff.1 (hKn p hp).2.2.1).1⟩
  ·have:=(Array.getElem?_eq_some_iff.1 (hE.kept p hp).1).1
   have:=c1.size
   exact ⟨by omega,by omega⟩
 have hYlo : ∀ Y,G.Y = some Y → Y.lo ≤ w1.heap.size:=fun Y hY=>by
  have:=(hE.yes Y hY).1
  have:=c1.size
  omega
 have hl0 : G.w0.heap.size ≤ l:=by omega
 let Yc : YC:={
  P:=P,l:=l,L:=L,stop:=e,lo:=w1.heap.size
  J:=fun k w F _ B=>LJ G l (K ++ G.kept) (M ++ G.dm) (lrec fn a.tmps ps asg body d) a.tmps w1.heap.size c sl bl e X R k w F B
  lt:=fun k w F _ B h=>h.lt
  stable:=fun k w F _ _ B T w' F' h hc wf hT _=>h.stable hKl (by have:=c1.size; omega) hYlo hc wf hT
  fam:=fun St h=>by
   obtain ⟨es,he⟩:=hLt 0 (.fam St) (by rw [h]; rfl)
   cases he
  ig:=fun _ _ _ _ _ _ _ h=>h
  call:=fun k w F _ B es xs hJ _ hk hL hp hxl hxf=>LJ.call hok hKl hl0 hya hzb hps iha ihb hkc hcc hsl hbl hLl hround hstop hJ hk hL hp hxl hxf }
 have hJ0 : Yc.J 0 w1 F m (fun b=>(∃ g,nb ≤ g ∧ (ofL c (bl 0 ++ sl) g).isBlk = true ∧ m g = some (some b)) ∨ b = l ∨ B0 b):=
  ⟨m,B0,.ready,none,bl 0,hR1,hE1,fun _=>Iff.rfl,Nat.le_refl _,hbl 0,fun _=>⟨rfl,rfl,rfl⟩,fun h=>by omega⟩
 have hcall:=hY Yc w1 F m _ us rfl rfl (fun _ _ _ _ _ _ h=>h) hJ0 hR1.wf hul (fun i d u hd hu=>(hpur i d u hd hu).still c1)
 refine ⟨l,M.map markOf,w1,{ target:=.fn (.func f) us.toArray,args:=#[.func (.yield l) #[] #[]] },w1,f,#[.func (.yield l) #[] #[]] ++ us.toArray,w1,hrun,?_,fun _ _=>trivial,?_,fun h=>(by cases h),?_⟩
 ·simp only [resolve,hxe]
  simp [go_sem,Act.eval]
 ·simp [invoke,go_sem,run_callFunc hf]
 ·have h2 : CallsIn Fence.wide (n - 1) P f (Value.func (.yield Yc.l) #[] #[] :: us).toArray w1 _:=callsIn_wide.2 hcall
  have e1 : #[Value.func (.yield l) #[] #[]] ++ us.toArray = (Value.func (.yield l) #[] #[] :: us).toArray:=by apply Array.ext'; simp
  rw [e1]
  refine CallsIn.mono (F:=G.fen) (show CallsIn G.fen (n - 1) P f (Value.func (.yield l) #[] #[] :: us).toArray w1 _ from h2) ?_
  rintro e' w2 ⟨v,F2,B2,k,rfl,hJ2,hk2⟩
  obtain ⟨m2,Bo2,st,pe,bx,hR2,hE2,hB2,hlo2,hbx2,h1,h2⟩:=hJ2
  have hl2:=(hE2.kept _ (List.mem_cons_self ..)).1
  have fin : st ≠ .busy → (Instr.endLoop l).run P w2 = .ok pe (w2.putObj l (.loop { lrec fn a.tmps ps asg body d st pe with state:=.exhausted })) ∧
    ∃ G',GExt G G' ∧ G'.ok P ∧ Rel G' (ofL c (bx ++ sl)) { a with defers:=M.map markOf ++ a.defers } (w2.putObj l (.loop { lrec fn a.tmps ps asg body d st pe with state:=.exhausted })):=fun hst=>by
   obtain ⟨hR3,hE3⟩:=hR2.rekept hE2 (o2:=.loop { lrec fn a.tmps ps asg body d st pe with state:=.exhausted }) (List.mem_cons_self ..) rfl (.inr hl0)
   have hmem : ∀ p,p ∈ K ++ G.kept → p ∈ setK l (.loop { lrec fn a.tmps ps asg body d st pe with state:=.exhausted }) (G.lp l (K ++ G.kept) (M ++ G.dm) (.loop (lrec fn a.tmps ps asg body d st pe))).kept:=fun p hp=>mem_setK (List.mem_cons_of_mem _ hp) (hKl p hp).1
   refine ⟨run_endLoop hl2 hst,_,⟨_,_,rfl,fun p hp=>hmem p (List.mem_append_right _ hp)⟩,⟨hok.prog,fun l' hl'=>?_,fun b hb=>?_,hnd,fun b hb=>?_⟩,?_,F2,m2,hR3⟩
   ·obtain ⟨r,hr⟩:=hok.rcd l' hl'
    exact ⟨r,hmem _ (List.mem_append_right _ hr)⟩
   ·rcases List.mem_append.1 hb with hb | hb
    ·exact hmem _ (List.mem_append_left _ (hMk b hb))
    ·exact hmem _ (List.mem_append_right _ (hok.mrk b hb))
   ·rcases List.mem_append.1 hb with hb | hb
    ·exact Nat.le_trans hw0 (hKn _ (hMk b hb)).1
    ·exact hok.new b hb
   ·show M.map markOf ++ a.defers = (M ++ G.dm).map markOf
    rw [hdf,List.map_append]
  rcases hk2 with ⟨rfl,hle⟩ | ⟨rfl,hlt⟩
  ·obtain ⟨rfl,rfl,rfl⟩:=h1 hle
   obtain ⟨q1,G',q2,q3,q4⟩:=fin (fun h=>by cases h)
   exact ⟨none,_,q1,G',_,q2,q3,q4,hdone hle⟩
  ·obtain ⟨rfl,h3⟩:=h2 (Nat.lt_succ_self _)
   obtain ⟨q1,G',q2,q3,q4⟩:=fin (fun h=>by cases h)
   rcases h3 with ⟨rfl,hr⟩ | ⟨id,rfl,hr⟩
   ·exact ⟨some .ret,_,q1,wpIn_ret ⟨G',_,q2,q3,q4,hr⟩⟩
   ·exact ⟨some (.exit id),_,q1,wpIn_exit ⟨G',_,q2,q3,q4,hr⟩⟩
theorem dwp_ok {xo : List Nat} (hm : P.follows .mixedOrders = true) (c : Code) : CodeOK P xo c := by
  induction c with
  | skip => intro dc G σ a w N X R n hok h hR hd
            obtain rfl : DC.skip = dc := by simpa [cdc] using h
            exact wpIn_skip ⟨G, σ, .refl G, hok, hR, hd⟩
  | label l => intro dc G σ a w N X R n hok h hR hd
               obtain rfl : DC.skip = dc := by simpa [cdc] using h
               exact wpIn_label ⟨G, σ, .refl G, hok, hR, hd⟩
  | region id ops draw =>
    intro dc G σ a w N X R n hok h0 hR hd
    have h : ((cgis P G.n xo ops ops.toList).bind fun gis => if draw then oif (edgesOk 0 ops.toList) (some (.reg gis (some (clo ops.toList [])))) else some (.reg gis none)) = some dc := by
      simp only [cdc, Option.some.injEq] at h0
      generalize ((cgis P G.n xo ops ops.toList).bind fun gis => if draw then oif (edgesOk 0 ops.toList) (some (DC.reg gis (some (clo ops.toList [])))) else some (.reg gis none)) = y at h0
      cases y with
      | some d => exact congrArg some h0
      | none => obtain rfl : DC.no = dc := h0; exact hd.elim
    clear h0
    simp only [Option.bind_eq_some_iff] at h
    obtain ⟨gis, hg, h⟩ := h
    have hev : ∃ B, evG P (B.getD []) gis σ (acc0 B) N ∧ (draw = true → edgesOk 0 ops.toList = true ∧ B = some (clo ops.toList [])) := by
      cases draw with
      | true =>
        simp only [if_true, oif_some, Option.some.injEq] at h
        obtain ⟨he, rfl⟩ := h
        exact ⟨some (clo ops.toList []), hd, fun _ => ⟨he, rfl⟩⟩
      | false =>
        simp only [Bool.false_eq_true, if_false, Option.some.injEq] at h
        subst h
        exact ⟨none, hd, (fun e => by cases e)⟩
    obtain ⟨B, hev, hB⟩ := hev
    obtain ⟨es, hch, hN, hok'⟩ := gis_ok (G := G) hok.prog ops.toList gis 0 σ _ (by simp) (by omega) hg hev
    have fin : ∀ a' w', Rel G (stOf es (fun _ => true) 0 σ) a' w' → post P G N X R .normal a' w' := fun a' w' hR' => ⟨G, _, .refl G, hok, hR', hN⟩
    cases draw with
    | true =>
      obtain ⟨he, rfl⟩ := hB rfl
      refine wpIn_region_any hm ?_
      have h0 : (stOf es (fun k => (Array.replicate ops.size false).getD k false) 0 σ) = σ := by
        funext t
        exact stOf_still _ _ _ _ _ (fun k p _ _ => getD_falses _ _)
      refine any_of_chain hch (hok' [] rfl) he fin ops.size _ a _ (by simp) ?_ (fun k o hk => ?_) (by rw [h0]; exact hR.drew) n
      · exact Nat.le_trans List.countP_le_length (by rw [List.length_range]; exact Nat.le_refl _)
      · rw [getD_falses] at hk; cases hk
    | false =>
      refine wpIn_region ?_
      have := line_ok (Q := post P G N X R) n es 0 σ a w hch hR fin
      rw [Nat.sub_zero, ← List.range_eq_range'] at this
      exact this
  | seq c d ihc ihd =>
    intro dc G σ a w N X R n hok h hR hd
    simp only [cdc, Option.bind_eq_some_iff, Option.some.injEq] at h
    obtain ⟨x, hx, y, hy, rfl⟩ := h
    refine wpIn_seq (wpIn_mono (ihc x G σ a w _ X R n hok hx hR hd) ?_)
    intro e a' w' hp
    cases e with
    | normal =>
      obtain ⟨G', τ, hG, hok', hR', hd'⟩ := hp
      obtain ⟨K, M, rfl, hK⟩ := id hG
      exact wpIn_mono (ihd y { G with kept := K, dm := M } τ a' w' N X R n hok' hy hR' hd') (fun e a w h => h.ext hG)
    | _ => exact hp
  | cond t c d ihc ihd =>
    intro dc G σ a w N X R n hok h hR hd
    simp only [cdc, Option.bind_eq_some_iff, Option.some.injEq] at h
    obtain ⟨C, hC, x, hx, y, hy, rfl⟩ := h
    simp only [dwp] at hd
    cases hv : C.val σ with
    | v b =>
      rw [hv] at hd
      cases b with
      | bool q =>
        obtain ⟨_, F, m, hRF⟩ := id hR
        have he := opd_v hRF hC (fun _ _ => rfl) hv
        refine wpIn_cond_split he (fun hq => ihc x G σ a w N X R n hok hx hR (hd.1 hq)) (fun hq => ihd y G σ a w N X R n hok hy hR (hd.2 hq))
      | _ => exact hd.elim
    | _ => rw [hv] at hd; exact hd.elim
  | block id c ih =>
    intro dc G σ a w N X R n hok h hR hd
    simp only [cdc, Option.bind_eq_some_iff, Option.some.injEq] at h
    obtain ⟨x, hx, rfl⟩ := h
    refine wpIn_block (wpIn_mono (ih x G σ a w _ _ R n hok hx hR hd) ?_)
    intro e a' w' hp
    cases e with
    | exit i =>
      obtain ⟨G', τ, hG, hok', hR', hd'⟩ := hp
      simp only [Exit.inBlock]
      split
      · rename_i e; rw [if_pos e] at hd'; exact ⟨G', τ, hG, hok', hR', hd'⟩
      · rename_i e; rw [if_neg e] at hd'; exact ⟨G', τ, hG, hok', hR', hd'⟩
    | _ => exact hp
  | loop c ih =>
    intro dc G σ a w N X R n hok h hR hd
    simp only [cdc, Option.bind_eq_some_iff, Option.some.injEq] at h
    obtain ⟨x, hx, rfl⟩ := h
    obtain ⟨ι, I, J, m, i, hJ, hle, hround⟩ := hd
    have key : ∀ (q : Nat) (G' : Ctx) (i : ι) (a : Act) (w : World), GExt G G' → G'.ok P → m i < q → J i → Rel G' (I i) a w → Code.roundsIn G.fen n P c (post P G N X R) q a w := by
      intro q
      induction q with
      | zero => intro G' i a w _ _ h; omega
      | succ q ihn =>
        intro G' i a w hG hok' hlt hJ hR
        rw [roundsIn_succ]
        obtain ⟨K, M, rfl, hK⟩ := id hG
        refine wpIn_mono (ih x { G with kept := K, dm := M } (I i) a w _ X R n hok' hx hR (hround i hJ)) ?_
        intro e a' w' hp
        cases e with
        | normal =>
          obtain ⟨G2, τ, hG2, hok2, hR', j, hJ', hmj, hle'⟩ := hp
          have hk2 : G2.k = G.k := by obtain ⟨K2, M2, rfl, _⟩ := hG2; rfl
          exact ihn G2 j a' w' (hG.trans hG2) hok2 (by omega) hJ' (hle' G2 a' w' hk2 hR')
        | _ => exact post.ext hG hp
    exact wpIn_loop_rounds (m i + 1) (key _ G i a w (.refl G) hok (by omega) hJ (hle G a w rfl hR))
  | exit id => intro dc G σ a w N X R n hok h hR hd
               obtain rfl : DC.exit id = dc := by simpa [cdc] using h
               exact wpIn_exit ⟨G, σ, .refl G, hok, hR, hd⟩
  | scope c ih =>
    intro dc G σ a w N X R n hok h hR hd
    refine wpIn_scope (wpIn_mono (ih dc G σ a w N X R n hok h hR hd) ?_)
    intro e a' w' hp
    cases e with
    | goto l => exact hp
    | _ => exact hp
  | ret => intro dc G σ a w N X R n hok h hR hd
           obtain rfl : DC.ret = dc := by simpa [cdc] using h
           exact wpIn_ret ⟨G, σ, .refl G, hok, hR, hd⟩
  | rangeFunc g ps asg body iha ihb =>
    intro dc G σ a w N X R n hok h hR hd
    simp only [cdc, Option.bind_eq_some_iff, oif_some, Option.some.injEq] at h
    obtain ⟨x, hx, y, hy, z, hz, hps, rfl⟩ := h
    exact rng_ok hx hy hz (fun p hp => by simpa using List.all_eq_true.1 hps p hp) iha ihb hok hR hd n
  | _ => intro dc G σ a w N X R n hok h hR hd
         obtain rfl : DC.no = dc := by simpa [cdc] using h
         exact hd.elim
inductive Res where
 | tmp (t : Nat)
 | cell (a : Nat) (n : Option Nat)
def cres (P : Program) : ResultVar → Option Res
 | .tmp t=>oif (decide (t < nb)) (some (.tmp t))
 | .cell a T=>(szOf P T).bind fun n=>oif (decide (a < nb)) (some (.cell a n))
def Res.val (σ : Env) : Res → D
 | .tmp t=>σ t
 | .cell a n=>D.getC (ptrC σ a) (ptrO σ a) n
def Res.ok (σ : Env) : Res → Prop
 | .tmp _=>True
 | .cell a n=>ptrOk σ a ∧ D.getCok (ptrC σ a) (ptrO σ a) n
def resD (σ : Env) : List Res → D
 | [x]=>x.val σ
 | l=>.tup (l.map (Res.val σ))
def resOk (σ : Env) : List Res → Prop
 | []=>True
 | x :: l=>x.ok σ ∧ resOk σ l
def readRes (tm : Array Value) : ResultVar → Sem Value
 | .tmp t=>pure (tm.getD t undef)
 | .cell a t=>do loadVar t (← asAddr (tm.getD a undef))
theorem resOne_run {σ : Env} {a : Act} {w : World} {F : Cells} {m : Names} (hR : RelF G σ a.tmps w F m) {x : ResultVar} {y : Res} (hx : cres P x = some y) (h : y.ok σ) :
  ∃ v,(readRes a.tmps x).run P w = .ok v w ∧ Fz w F m (y.val σ) v:=by
 cases x with
 | tmp t=>
  simp only [cres,oif_some,decide_eq_true_eq,Option.some.injEq] at hx
  obtain ⟨ht,rfl⟩:=hx
  exact ⟨_,rfl,hR.slots t ht⟩
 | cell s T=>
  simp only [cres,Option.bind_eq_some_iff,oif_some,decide_eq_true_eq,Option.some.injEq] at hx
  obtain ⟨n,hsz,hs,rfl⟩:=hx
  obtain ⟨b,q,us,hxe,hc,hu⟩:=ptr_at hR hs (fun _ _=>rfl) h.1
  obtain ⟨v,hv,h1,h2⟩:=getC_val hc h.2
  refine ⟨v,?_,hv⟩
  have hxe' : a.tmps.getD s undef = .pointer (some ⟨b,q + ptrO σ s,none⟩):=hxe
  cases n with
  | none=>
   have:=run_loadVar1 (P:=P) hsz w ⟨b,q + ptrO σ s,none⟩ v (hu _ _ (h1 rfl))
   simp [readRes,hxe',asAddr,this]
  | some n=>
   obtain ⟨rfl,hle⟩:=h2 n rfl
   have:=run_loadVarN (P:=P) hsz w b (q + ptrO σ s) ((us.drop (ptrO σ s)).take n) (by simp; omega) (fun j v hj=>by
    rw [List.getElem?_take] at hj
    split at hj
    ·rw [List.getElem?_drop] at hj
     rw [Nat.add_assoc]
     exact hu _ v hj
    ·cases hj)
   simp [readRes,hxe',asAddr,this]
theorem resAll_run {σ : Env} {a : Act} {w : World} {F : Cells} {m : Names} (hR : RelF G σ a.tmps w F m) : ∀ (rs : List ResultVar) (ys : List Res),rs.mapM (cres P) = some ys → resOk σ ys →
  ∃ vs,(rs.mapM (readRes a.tmps)).run P w = .ok vs w ∧ vs.length = ys.length ∧ ys.length = rs.length ∧ ∀ (i : Nat) (d : D) (v : Value),(ys.map (Res.val σ))[i]? = some d → vs[i]? = some v → Fz w F m d v
 | [],ys,hy,h=>by
  obtain rfl : [] = ys:=by simpa using hy
  exact ⟨[],rfl,rfl,rfl,fun i d v hd=>by simp at hd⟩
 | x :: l,ys,hy,h=>by
  simp only [List.mapM_cons,Option.bind_eq_bind,Option.pure_def,Option.bind_eq_some_iff,Option.some.injEq] at hy
  obtain ⟨y,hx,zs,hl,rfl⟩:=hy
  obtain ⟨v,hv,hf⟩:=resOne_run hR hx h.1
  obtain ⟨vs,hrun,h1,h2,h3⟩:=resAll_run hR l zs hl h.2
  refine ⟨v :: vs,?_,by simp [h1],by simp [h2],fun i e u he hu=>?_⟩
  ·simp [List.mapM_cons,hv,hrun]
  ·cases i with
   | zero=>
    obtain rfl : y.val σ = e:=by simpa using he
    obtain rfl : v = u:=by simpa using hu
    exact hf
   | succ i=>exact h3 i e u (by simpa using he) (by simpa using hu)
theorem results_eq (fn : Func) (tm : Array Value) : results fn tm = (do let vs ← fn.results.mapM (readRes tm); pure (if h : vs.size = 1 then vs[0] else .tuple vs)):=by
 unfold results
 have : (fun x : ResultVar=>match x with
  | .tmp t=>pure (tm.getD t undef)
  | .cell a t=>do loadVar t (← asAddr (tm.getD a undef)) : ResultVar → Sem Value) = readRes tm:=by
  funext x
  cases x <;> rfl
 rw [← this]
 rfl
theorem res_run {σ : Env} {a : Act} {w : World} {F : Cells} {m : Names} (hR : RelF G σ a.tmps w F m) (fn : Func) {ys : List Res} (hy : fn.results.toList.mapM (cres P) = some ys) (h : resOk σ ys) :
  ∃ v,(results fn a.tmps).run P w = .ok v w ∧ Fz w F m (resD σ ys) v:=by
 rw [results_eq]
 obtain ⟨vs,hrun,h1,h2,h3⟩:=resAll_run hR _ _ hy h
 have harr : (fn.results.mapM (readRes a.tmps)).run P w = .ok vs.toArray w:=by
  rw [Array.mapM_eq_mapM_toList]
  simp [hrun]
 have many : ys.length ≠ 1 → ∃ v,(do let vs ← fn.results.mapM (readRes a.tmps); pure (if h : vs.size = 1 then vs[0] else .tuple vs) : Sem Value).run P w = .ok v w ∧ Fz w F m (.tup (ys.map (Res.val σ))) v:=by
  intro hne
  refine ⟨.tuple vs.toArray,?_,.tup m _ vs (by simp [h1]) (fun i d u hd hu=>h3 i d u hd hu)⟩
  have hne' : ¬ vs.toArray.size = 1:=by simp [h1]; exact hne
  simp only [Sem.run_bind,harr,Result.andThen_ok,Sem.run_pure,dif_neg hne']
 match ys,h1,h2,h3,many with
 | [],_,_,_,many=>exact many (by simp)
 | [y],h1,_,h3,_=>
  match vs,h1,h3,harr with
  | [v],_,h3,harr=>
   refine ⟨v,?_,h3 0 _ v rfl rfl⟩
   simp only [Sem.run_bind,harr,Result.andThen_ok,Sem.run_pure]
   rfl
 | _ :: _ :: _,_,_,_,many=>exact many (by simp)
def cfun (P : Program) (xo : List Nat) (f : FuncId) : Option (Nat × DC × List Res):=
 match P.funcs[f]? with
 | some fn=>match fn.body with
  | some c=>(cdc P fn.ntmps xo c).bind fun dc=>(fn.results.toList.mapM (cres P)).bind fun rs=>oif (decide (fn.ntmps ≤ gh)) (some (fn.ntmps,dc,rs))
  | none=>none
 | none=>none
def Sub (d e : D) : Prop:=∀ (w : World) (F : Cells) (m : Names) (x : Value),Fz w F m d x → Fz w F m e x
structure FinOK (k : Nat) (rs : List Res) (r : D) (H' : List D) (L : List Nat) (τ : Env) : Prop where
 ok : resOk τ rs
 res : Sub (resD τ rs) (r.ren L)
 len : L.length = H'.length
 can : canB k L = true
 blk : ∀ (i : Nat) (d : D) (g : Nat),H'[i]? = some d → L[i]? = some g → d = .any ∨ (d.isBlk = true ∧ τ g = d.ren L)
def Fin (k : Nat) (rs : List Res) (r : D) (H' : List D) (τ : Env) : Prop:=∃ τ' L,Wk k τ τ' ∧ FinOK k rs r H' L τ'
def entL : Nat → List D → Env → Env
 | _,[],σ=>σ
 | i,d :: l,σ=>(entL (i + 1) l σ).set i d
def ent (H ds : List D) : Env:=entL 0 ds (entL nb H (base 0))
theorem entL_at : ∀ (ds : List D) (i t : Nat) (σ : Env),entL i ds σ t = if i ≤ t ∧ t < i + ds.length then ds.getD (t - i) .any else σ t
 | [],i,t,σ=>by rw [entL,if_neg (by simp)]
 | d :: ds,i,t,σ=>by
  rw [entL]
  by_cases e : t = i
  ·subst e; rw [Env.set_same,if_pos ⟨Nat.le_refl _,by simp⟩]; simp
  ·rw [Env.set_ne _ _ _ _ e,entL_at ds (i + 1) t]
   by_cases h : i + 1 ≤ t ∧ t < i + 1 + ds.length
   ·rw [if_pos h,if_pos (by simp; omega),show t - i = (t - (i + 1)) + 1 by omega]
    simp
   ·rw [if_neg h,if_neg (by simp; omega)]
theorem marks_out {P : Program} {fn : Func} {tm : Array Value} {R : Ending → World → Prop} {σ : Env} {F : Cells} {m : Names} {n : Nat} : ∀ (M : List Nat) (G : Ctx) (w : World) (B : Blocks),RelF G σ tm w F m → ExtB G σ w F m B → (∀ b,b ∈ M → (b,Obj.deferred (some [])) ∈ G.kept) → M.Nodup → (∀ b,b ∈ M → G.w0.heap.size ≤ b) →
  (∀ K w',RelF { G with kept:=K } σ tm w' F m → ExtB { G with kept:=K } σ w' F m B → LeavesIn Fence.wide n P fn tm R [] .returning w') → LeavesInM Fence.wide n P fn tm R (M.map markOf) .returning w
 | [],G,w,B,h,hE,_,_,_,hK=>hK G.kept w h hE
 | b :: M,G,w,B,h,hE,hm,hnd,hge,hK=>by
  have h1:=hm b (List.mem_cons_self ..)
  obtain ⟨h2,hE2⟩:=h.rekept hE (o2:=.deferred none) h1 rfl (.inr (hge b (List.mem_cons_self ..)))
  obtain ⟨hb,hnd⟩:=List.nodup_cons.1 hnd
  refine ⟨fun h=>(by cases h),.inl ⟨b,w.putObj b (.deferred none),rfl,run_takeDeferred (hE.kept _ h1).1,?_⟩⟩
  exact marks_out M { G with kept:=setK b (.deferred none) G.kept } _ B h2 hE2 (fun b' hb'=>mem_setK (hm b' (List.mem_cons_of_mem _ hb')) (fun e=>hb (e ▸ hb'))) hnd (fun b' hb'=>hge b' (List.mem_cons_of_mem _ hb')) (fun K w' h h'=>hK K w' h h')
theorem does_of {xo : List Nat} {f : FuncId} {n : Nat} {dc : DC} {rs : List Res} (hc : cfun P xo f = some (n,dc,rs)) (hm : P.follows .mixedOrders = true) {H ds H' : List D} {r : D} (hl : ds.length ≤ n)
  (hd : dwp P H.length dc (ent H ds) (Fin H.length rs r H') (fun _ _=>False) (Fin H.length rs r H')) : Does P f H ds r H':=by
 unfold cfun at hc
 split at hc
 rotate_left
 ·cases hc
 rename_i fn hf
 split at hc
 rotate_left
 ·cases hc
 rename_i c hb
 simp only [Option.bind_eq_some_iff,oif_some,Option.some.injEq,Prod.mk.injEq,decide_eq_true_eq] at hc
 obtain ⟨dc',hdc,rs',hrs,hnb,rfl,rfl,rfl⟩:=hc
 have hnb' : fn.ntmps ≤ nb:=Nat.le_trans hnb (by decide)
 intro w F m xs hxl hHle hwf hfz hblk hnone hinj
 refine (callsIn_wide (n:=3)).1 (callsIn_of_wp_marks hf hb trivial ?_)
 let G : Ctx:={ n:=fn.ntmps,w0:=w,F0:=F,R0:=fun b=>∃ i,i < H.length ∧ m (nb + i) = some (some b),k:=H.length,m0:=m }
 have hgetx : ∀ t,(xs.toArray ++ Array.replicate (fn.ntmps - xs.toArray.size) undef).getD t undef = xs.getD t undef:=by
  intro t
  simp only [Array.getD_eq_getD_getElem?,List.getD_eq_getElem?_getD]
  by_cases ht : t < xs.length
  ·rw [Array.getElem?_append_left (by simpa using ht)]
   simp
  ·rw [Array.getElem?_append_right (by simpa using ht),Array.getElem?_replicate,List.getElem?_eq_none (by omega)]
   split <;> rfl
 have hslot : ∀ t,t < nb → ent H ds t = if t < ds.length then ds.getD t .any else .any:=by
  intro t ht
  unfold ent
  rw [entL_at,entL_at]
  by_cases h : t < ds.length
  ·rw [if_pos ⟨Nat.zero_le _,by omega⟩,if_pos h]; simp
  ·rw [if_neg (by omega),if_neg (by omega),if_neg h]; unfold base; rw [if_pos ht]
 have hnm : ∀ g,nb ≤ g → ent H ds g = if g < nb + H.length then H.getD (g - nb) .any else .free:=by
  intro g hg
  unfold ent
  rw [entL_at,entL_at,if_neg (by omega)]
  by_cases h : g < nb + H.length
  ·rw [if_pos ⟨hg,h⟩,if_pos h]
  ·rw [if_neg (by omega),if_neg h]; unfold base; rw [if_neg (by omega),if_neg (by omega)]
 have hHi : ∀ i,i < H.length → H[i]? = some (H.getD i .any):=fun i hi=>by rw [List.getD_eq_getElem?_getD,List.getElem?_eq_getElem hi]; rfl
 have hisb : ∀ g,nb ≤ g → (ent H ds g).isBlk = true → g < nb + H.length:=by
  intro g hg h
  rw [hnm g hg] at h
  split at h
  ·assumption
  ·cases h
 have hR0 : Rel G (ent H ds) { tmps:=xs.toArray ++ Array.replicate (fn.ntmps - xs.toArray.size) undef,defers:=[] } w:=by
  refine ⟨rfl,F,m,?_,Nat.le_trans hnb (by decide),fun t ht=>?_,fun g hg=>?_,fun g g' b hg hg' h1 h2 h3 h4=>?_,hwf,Chg.refl w F _,fun g b hg h1 h2=>?_,fun i hi=>?_,hnb,fun _=>False,fun p hp=>(by cases hp),fun b hb=>hb.elim,fun _=>⟨fun l L e k hk=>?_,fun b hb=>hb⟩,fun Y hY=>(by cases hY),fun Y hY=>(by cases hY)⟩
  ·show (xs.toArray ++ Array.replicate (fn.ntmps - xs.toArray.size) undef).size = fn.ntmps
   simp only [Array.size_append,Array.size_replicate,List.size_toArray]
   omega
  ·show Fz w F m (ent H ds t) ((xs.toArray ++ Array.replicate (fn.ntmps - xs.toArray.size) undef).getD t undef)
   rw [hgetx,hslot t ht]
   by_cases h : t < ds.length
   ·have hx : xs[t]? = some (xs.getD t undef):=by rw [List.getD_eq_getElem?_getD,List.getElem?_eq_getElem (by omega)]; rfl
    have hdd : ds[t]? = some (ds.getD t .any):=by rw [List.getD_eq_getElem?_getD,List.getElem?_eq_getElem h]; rfl
    rw [if_pos h]
    exact hfz t _ _ hdd hx
   ·rw [if_neg h]; exact .any _ _
  ·rw [hnm g hg]
   by_cases h : g < nb + H.length
   ·rw [if_pos h]
    have:=(hblk (g - nb) _ (hHi _ (by omega))).2
    rwa [show nb + (g - nb) = g by omega] at this
   ·rw [if_neg h]; exact hnone g (.inr (by omega))
  ·have l1:=hisb g hg h1
   have l2:=hisb g' hg' h2
   have:=hinj (g - nb) (g' - nb) b (by omega) (by omega) (by rwa [show nb + (g - nb) = g by omega]) (by rwa [show nb + (g' - nb) = g' by omega])
   omega
  ·have l1:=hisb g hg h1
   exact .inl ⟨g - nb,by omega,by rwa [show nb + (g - nb) = g by omega]⟩
  ·have hi : i < H.length:=hi
   refine ⟨?_,rfl⟩
   rw [hnm _ (by omega),if_pos (by omega),show nb + i - nb = i by omega]
   have:=(hblk i _ (hHi i hi)).1
   intro e
   rw [e] at this
   cases this
  ·rw [hslot gh (by decide),if_neg (by omega)] at hk
   cases hk
 have fin : ∀ (a' : Act) (w' : World),(∃ G' τ,GExt G G' ∧ G'.ok P ∧ Rel G' τ a' w' ∧ Fin H.length rs' r H' τ) → LeavesInM Fence.wide 3 P fn a'.tmps (fun e w'=>∃ (x : Value) (F' : Cells) (m' : Names),e = .returned x ∧ Chg w F (fun b=>∃ i,i < H.length ∧ m (nb + i) = some (some b)) w' F' ∧
   (∀ b o,F' b o → b < w'.heap.size) ∧ (∀ i,i < H.length → m' (nb + i) = m (nb + i)) ∧ (∀ g,g < nb ∨ nb + H'.length ≤ g → m' g = none) ∧ Fz w' F' m' r x ∧ (∀ (i : Nat) (d : D),H'[i]? = some d → d ≠ .free ∧ Blk w' F' m' (nb + i) d) ∧
   (∀ i j b d d',H'[i]? = some d → H'[j]? = some d' → d.isBlk = true → d'.isBlk = true → m' (nb + i) = some (some b) → m' (nb + j) = some (some b) → i = j) ∧
   (∀ i d b,H'[i]? = some d → d.isBlk = true → m' (nb + i) = some (some b) → (∃ j,j < H.length ∧ m (nb + j) = some (some b)) ∨ w.heap.size ≤ b)) a'.defers .returning w':=by
  rintro a' w1 ⟨G',τ0,hG,hok',hR,τ,L,hwk,hfin⟩
  obtain ⟨K,M,rfl,hK⟩:=hG
  obtain ⟨hdf,F',m1,hR⟩:=hwk _ a' w1 rfl hR
  obtain ⟨B1,hE1⟩:=hR.ext
  rw [hdf]
  refine marks_out _ _ _ B1 hR hE1 hok'.mrk hok'.nd hok'.new (fun K' w' hR _=>?_)
  obtain ⟨v,hv,hfv⟩:=res_run (a:=a') hR fn hrs hfin.ok
  have hcan:=can_of hfin.can
  have hmm : ∀ g g',nameOf L g = some g' → (fun g=>(nameOf L g).bind m1) g = m1 g':=fun g g' hg=>by simp [hg]
  have hat : ∀ i g,L[i]? = some g → (nameOf L (nb + i)).bind m1 = m1 g:=fun i g hg=>by rw [nameOf_at,hg]; rfl
  have hLi : ∀ (i : Nat) (d : D),H'[i]? = some d → ∃ g,L[i]? = some g ∧ nb ≤ g ∧ (d = .any ∨ (d.isBlk = true ∧ τ g = d.ren L)):=fun i d hd=>by
   have h1 : i < L.length:=by rw [hfin.len]; exact (List.getElem?_eq_some_iff.1 hd).1
   have h2:=List.getElem?_eq_getElem h1
   exact ⟨_,h2,hcan.ge _ (List.mem_of_getElem? h2),hfin.blk i d _ hd h2⟩
  have hbl : ∀ (i : Nat) (d : D),H'[i]? = some d → d.isBlk = true → ∃ g,L[i]? = some g ∧ nb ≤ g ∧ (τ g).isBlk = true:=fun i d hd hb=>by
   obtain ⟨g,hg,hgn,h | ⟨_,h⟩⟩:=hLi i d hd
   ·rw [h] at hb; cases hb
   ·exact ⟨g,hg,hgn,by rw [h,isBlk_ren]; exact hb⟩
  have hfv:=hfin.res _ _ _ _ hfv
  refine ⟨v,hv,v,F',fun g=>(nameOf L g).bind m1,rfl,hR.chg,hR.wf,fun i hi=>?_,fun g hg=>?_,hfv.unren hmm rfl,fun i d hd=>?_,fun i j b d d' hd hd' h1 h2 h3 h4=>?_,fun i d b hd h1 h2=>?_⟩
  ·show (nameOf L (nb + i)).bind m1 = m (nb + i)
   rw [hat i _ (hcan.fix i hi)]
   exact (hR.par i hi).2
  ·show (nameOf L g).bind m1 = none
   rcases hg with hg | hg
   ·unfold nameOf; rw [if_pos hg]; rfl
   ·unfold nameOf
    rw [if_neg (by omega),List.getElem?_eq_none (by rw [hfin.len]; omega)]
    rfl
  ·obtain ⟨g,hg,hgn,h | ⟨hb,h⟩⟩:=hLi i d hd
   ·subst h; exact ⟨(fun e=>by cases e),trivial⟩
   ·refine ⟨(fun e=>by rw [e] at hb; cases hb),?_⟩
    have h0:=hR.blks g hgn
    rw [h] at h0
    exact h0.unren hb hmm (hat i g hg)
  ·obtain ⟨g,hg,hgn,hgb⟩:=hbl i d hd h1
   obtain ⟨g',hg',hgn',hgb'⟩:=hbl j d' hd' h2
   dsimp only at h3 h4
   rw [hat i g hg] at h3
   rw [hat j g' hg'] at h4
   have e:=hR.inj g g' b hgn hgn' hgb hgb' h3 h4
   subst e
   exact (List.getElem?_inj (List.getElem?_eq_some_iff.1 hg).1 hcan.nd).1 (hg.trans hg'.symm)
  ·obtain ⟨g,hg,hgn,hgb⟩:=hbl i d hd h1
   dsimp only at h2
   rw [hat i g hg] at h2
   exact hR.own g b hgn hgb h2
 have hok0 : G.ok P:=⟨fun Y hY=>(by cases hY),fun l hl=>(by cases hl),fun b hb=>(by cases hb),List.nodup_nil,fun b hb=>(by cases hb)⟩
 refine wpIn_mono (F:=G.fen) (dwp_ok hm c dc' G (ent H ds) _ w _ _ _ 3 hok0 hdc hR0 hd) ?_
 intro e a' w' hp
 cases e with
 | normal=>exact fin a' w' hp
 | ret=>exact fin a' w' hp
 | exit id=>obtain ⟨_,_,_,_,_,h⟩:=hp; exact h.elim
 | _=>exact hp.elim
end
end
section
open Go.RowKit
theorem set_get (σ : Env) (t : Nat) (d : D) (u : Nat) : (σ.set t d) u = if u = t then d else σ u:=rfl
theorem base_get (c t : Nat) : base c t = if t < 1000000 then .any else if t < 1000000 + c then .any else .free:=rfl
theorem nb_eq : nb = 1000000:=rfl
theorem gh_eq : gh = 999999:=rfl
theorem freeN_eq (σ : Env) (g : Nat) : freeN σ g = (1000000 ≤ g ∧ σ g = .free):=rfl
theorem evG_mono {P : Program} {B : List Nat} {N M : Env → Prop} (h : ∀ τ,N τ → M τ) : ∀ (l : List GI) (σ : Env) (acc : Option (List Ent)),evG P B l σ acc N → evG P B l σ acc M
 | [],σ,_,hh=>⟨hh.1,h σ hh.2⟩
 | _ :: l,_,_,⟨e,upd,hs,hh⟩=>⟨e,upd,hs,evG_mono h l _ _ hh⟩
theorem dwp_mono {P : Program} (c : DC) : ∀ {k : Nat} {σ : Env} {N M : Env → Prop} {X Y : Nat → Env → Prop} {R S : Env → Prop},(∀ τ,N τ → M τ) → (∀ i τ,X i τ → Y i τ) → (∀ τ,R τ → S τ) → dwp P k c σ N X R → dwp P k c σ M Y S:=by
 induction c with
 | skip=>intro k σ N M X Y R S hN hX hR h; exact hN _ h
 | reg gis B=>intro k σ N M X Y R S hN hX hR h; exact evG_mono hN _ _ _ h
 | seq a b iha ihb=>intro k σ N M X Y R S hN hX hR h; exact iha (fun τ hτ=>ihb hN hX hR hτ) hX hR h
 | cond c a b iha ihb=>
  intro k σ N M X Y R S hN hX hR h
  simp only [dwp] at h ⊢
  cases hv : c.val σ with
  | v x=>
   rw [hv] at h
   cases x with
   | bool q=>exact ⟨fun hq=>iha hN hX hR (h.1 hq),fun hq=>ihb hN hX hR (h.2 hq)⟩
   | _=>exact h.elim
  | _=>rw [hv] at h; exact h.elim
 | block id c ih=>
  intro k σ N M X Y R S hN hX hR h
  refine ih hN (fun i τ hτ=>?_) hR h

  split
  ·rename_i e; rw [if_pos e] at hτ; exact hN _ hτ
  ·rename_i e; rw [if_neg e] at hτ; exact hX _ _ hτ
 | loop c ih=>
  intro k σ N M X Y R S hN hX hR h
  obtain ⟨ι,I,J,m,i,hJ,hw,hh⟩:=h
  exact ⟨ι,I,J,m,i,hJ,hw,fun i hJ=>ih (fun _ h=>h) hX hR (hh i hJ)⟩
 | exit id=>intro k σ N M X Y R S hN hX hR h; exact hX _ _ h
 | ret=>intro k σ N M X Y R S hN hX hR h; exact hR _ h
 | rng x ps a b iha ihb=>
  intro k σ N M X Y R S hN hX hR h
  obtain ⟨f,caps,L,e,c0,c,sl,bl,h1,h2,h3,h4,h5,h5',h6,h7,h8,h9,h10,h10',h11,h12,h13⟩:=h
  exact ⟨f,caps,L,e,c0,c,sl,bl,h1,h2,h3,h4,h5,h5',h6,h7,h8,h9,h10,h10',h11,fun es he hp=>iha (fun τ hτ=>ihb (fun _ h=>h) (fun _ _ ⟨bx,q1,q2,q3⟩=>⟨bx,q1,q2,hX _ _ q3⟩) (fun _ ⟨bx,q1,q2,q3⟩=>⟨bx,q1,q2,hR _ q3⟩) hτ) (fun _ _ h=>h) (fun _ h=>h) (h12 es he hp),fun hl=>hN _ (h13 hl)⟩
 | no=>intro k σ N M X Y R S hN hX hR h; exact h.elim
theorem Sub.refl (d : D) : Sub d d:=fun _ _ _ _ h=>h
theorem Sub.of_eq {d e : D} (h : d = e) : Sub d e:=by subst h; exact Sub.refl d
theorem Sub.any (d : D) : Sub d .any:=fun _ _ m x _=>.any m x
theorem Sub.nul (s : Nat) : Sub .nul (.sl s []):=fun _ _ m x h=>by cases h with
 | nul _ a=>exact .sl0 m s a 0
def SubL : List D → List D → Prop
 | [],[]=>True
 | d :: l,e :: k=>Sub d e ∧ SubL l k
 | _,_=>False
theorem SubL.refl : ∀ l : List D,SubL l l
 | []=>trivial
 | d :: l=>⟨Sub.refl d,SubL.refl l⟩
theorem SubL.spec : ∀ {l k : List D},SubL l k → l.length = k.length ∧ ∀ (i : Nat) (e : D),k[i]? = some e → ∃ d,l[i]? = some d ∧ Sub d e
 | [],[],_=>⟨rfl,fun i e h=>by simp at h⟩
 | [],_ :: _,h=>h.elim
 | _ :: _,[],h=>h.elim
 | d :: l,e :: k,h=>by
  obtain ⟨h1,h2⟩:=h.2.spec
  refine ⟨by simp [h1],fun i e' he=>?_⟩
  cases i with
  | zero=>
   obtain rfl : e = e':=by simpa using he
   exact ⟨d,rfl,h.1⟩
  | succ i=>exact h2 i e' (by simpa using he)
theorem Sub.agg {l k : List D} (h : SubL l k) : Sub (.agg l) (.agg k):=fun w F m x hx=>by
 obtain ⟨h1,h2⟩:=h.spec
 cases hx with
 | agg _ _ us hl ho hr=>
  exact .agg m k us (by rw [hl,h1]) ho (fun i e u he hu=>by
   obtain ⟨d,hd,hs⟩:=h2 i e he
   exact hs _ _ _ _ (hr i d u hd hu))
theorem Sub.tup {l k : List D} (h : SubL l k) : Sub (.tup l) (.tup k):=fun w F m x hx=>by
 obtain ⟨h1,h2⟩:=h.spec
 cases hx with
 | tup _ _ us hl hr=>
  exact .tup m k us (by rw [hl,h1]) (fun i e u he hu=>by
   obtain ⟨d,hd,hs⟩:=h2 i e he
   exact hs _ _ _ _ (hr i d u hd hu))
theorem Sub.trans {d e f : D} (h : Sub d e) (h1 : Sub e f) : Sub d f:=fun w F m x hx=>h1 w F m x (h w F m x hx)
section
variable {P : Program} {k : Nat} {a b : DC} {σ : Env} {N : Env → Prop} {X : Nat → Env → Prop} {R : Env → Prop}
theorem dw_skip (h : N σ) : dwp P k .skip σ N X R:=h
instance i_dw_skip : Stp (N σ) (dwp P k .skip σ N X R):=⟨dw_skip⟩
theorem dw_reg0 {gis : List GI} (h : evG P [] gis σ none N) : dwp P k (.reg gis none) σ N X R:=h
theorem dw_regB {gis : List GI} {B : List Nat} (h : evG P B gis σ (some []) N) : dwp P k (.reg gis (some B)) σ N X R:=h
theorem dw_seq (h : dwp P k a σ (fun τ=>dwp P k b τ N X R) X R) : dwp P k (.seq a b) σ N X R:=h
instance i_dw_seq : Stp (dwp P k a σ (fun τ=>dwp P k b τ N X R) X R) (dwp P k (.seq a b) σ N X R):=⟨dw_seq⟩
theorem dw_block {id : Nat} (h : dwp P k a σ N (fun i τ=>if i = id then N τ else X i τ) R) : dwp P k (.block id a) σ N X R:=h
instance i_dw_block {id : Nat} : Stp (dwp P k a σ N (fun i τ=>if i = id then N τ else X i τ) R) (dwp P k (.block id a) σ N X R):=⟨dw_block⟩
theorem dw_exit {id : Nat} (h : X id σ) : dwp P k (.exit id) σ N X R:=h
instance i_dw_exit {id : Nat} : Stp (X id σ) (dwp P k (.exit id) σ N X R):=⟨dw_exit⟩
theorem dw_ret (h : R σ) : dwp P k .ret σ N X R:=h
instance i_dw_ret : Stp (R σ) (dwp P k .ret σ N X R):=⟨dw_ret⟩
def dwC (P : Program) (k : Nat) (c : D) (a b : DC) (σ : Env) (N : Env → Prop) (X : Nat → Env → Prop) (R : Env → Prop) : Prop:=
 match c with
 | .v (.bool q)=>(q = true → dwp P k a σ N X R) ∧ (q = false → dwp P k b σ N X R)
 | _=>False
theorem dw_cond {c : Opd} (h : dwC P k (hold (c.val σ)) a b σ N X R) : dwp P k (.cond c a b) σ N X R:=by
 unfold hold dwC at h
 show (match c.val σ with
  | .v (.bool q)=>(q = true → dwp P k a σ N X R) ∧ (q = false → dwp P k b σ N X R)
  | _=>False)
 cases hc : c.val σ with
 | v x=>rw [hc] at h; cases x <;> exact h
 | _=>rw [hc] at h; exact h.elim
instance i_dw_cond {c : Opd} : Stp (dwC P k (hold (c.val σ)) a b σ N X R) (dwp P k (.cond c a b) σ N X R):=⟨dw_cond⟩
theorem c_true (h : dwp P k a σ N X R) : dwC P k (.v (.bool true)) a b σ N X R:=⟨fun _=>h,(fun e=>by cases e)⟩
instance i_c_true : Stp (dwp P k a σ N X R) (dwC P k (.v (.bool true)) a b σ N X R):=⟨c_true⟩
theorem c_false (h : dwp P k b σ N X R) : dwC P k (.v (.bool false)) a b σ N X R:=⟨(fun e=>by cases e),fun _=>h⟩
instance i_c_false : Stp (dwp P k b σ N X R) (dwC P k (.v (.bool false)) a b σ N X R):=⟨c_false⟩
theorem c_split {q : Bool} (h1 : q = true → dwp P k a σ N X R) (h2 : q = false → dwp P k b σ N X R) : dwC P k (.v (.bool q)) a b σ N X R:=⟨h1,h2⟩
theorem c_splitP {p : Prop} [Decidable p] (h1 : decide p = true → p → dwp P k a σ N X R) (h2 : decide p = false → ¬ p → dwp P k b σ N X R) : dwC P k (.v (.bool (decide p))) a b σ N X R:=⟨fun h=>h1 h (of_decide_eq_true h),fun h=>h2 h (of_decide_eq_false h)⟩
instance i_c_splitP {p : Prop} [Decidable p] : Spl (decide p = true) (p) (dwp P k a σ N X R) (decide p = false) (¬ p) (dwp P k b σ N X R) (dwC P k (.v (.bool (decide p))) a b σ N X R):=⟨c_splitP⟩
theorem c_splitE {x y : Int} (h1 : (x == y) = true → x = y → dwp P k a σ N X R) (h2 : (x == y) = false → ¬ x = y → dwp P k b σ N X R) : dwC P k (.v (.bool (x == y))) a b σ N X R:=⟨fun h=>h1 h (by simpa using h),fun h=>h2 h (by simpa using h)⟩
instance i_c_splitE {x y : Int} : Spl ((x == y) = true) (x = y) (dwp P k a σ N X R) ((x == y) = false) (¬ x = y) (dwp P k b σ N X R) (dwC P k (.v (.bool (x == y))) a b σ N X R):=⟨c_splitE⟩
theorem c_splitN {x y : Int} (h1 : (x != y) = true → ¬ x = y → dwp P k a σ N X R) (h2 : (x != y) = false → x = y → dwp P k b σ N X R) : dwC P k (.v (.bool (x != y))) a b σ N X R:=⟨fun h=>h1 h (by simpa using h),fun h=>h2 h (by simpa using h)⟩
instance i_c_splitN {x y : Int} : Spl ((x != y) = true) (¬ x = y) (dwp P k a σ N X R) ((x != y) = false) (x = y) (dwp P k b σ N X R) (dwC P k (.v (.bool (x != y))) a b σ N X R):=⟨c_splitN⟩
theorem c_splitQ {p : Prop} [Decidable p] (h1 : decide p = false → ¬ p → dwp P k a σ N X R) (h2 : decide p = true → p → dwp P k b σ N X R) : dwC P k (.v (.bool (!decide p))) a b σ N X R:=⟨fun h=>h1 (by simpa using h) (by simpa using h),fun h=>h2 (by simpa using h) (by simpa using h)⟩
instance i_c_splitQ {p : Prop} [Decidable p] : Spl (decide p = false) (¬ p) (dwp P k a σ N X R) (decide p = true) (p) (dwp P k b σ N X R) (dwC P k (.v (.bool (!decide p))) a b σ N X R):=⟨c_splitQ⟩
theorem it_pos {c : Prop} [Decidable c] {p q : Prop} (hc : c) (h : p) : if c then p else q:=by rw [if_pos hc]; exact h
theorem it_neg {c : Prop} [Decidable c] {p q : Prop} (hc : ¬ c) (h : q) : if c then p else q:=by rw [if_neg hc]; exact h
theorem dw_loop {ι : Type} (I : ι → Env) (J : ι → Prop) (m : ι → Nat) (i : ι) (hJ : J i) (hi : Wk k σ (I i))
  (h : ∀ i,J i → dwp P k a (I i) (fun τ=>∃ j,J j ∧ m j < m i ∧ Wk k τ (I j)) X R) : dwp P k (.loop a) σ N X R:=⟨ι,I,J,m,i,hJ,hi,h⟩
theorem dw_for {c : Nat} {l : Nat → List (Nat × D)} (hi : Nat) (J : Nat → Prop) (i : Nat) (hJ : J i) (hw : Wk k σ (ofL c (l i)))
  (h : ∀ i,i ≤ hi → J i → dwp P k a (hold (ofL c (l i))) (fun τ=>i < hi ∧ J (i + 1) ∧ Wk k τ (ofL c (l (i + 1)))) X R) (hle : i ≤ hi) : dwp P k (.loop a) σ N X R:=by
 refine dw_loop (fun i=>ofL c (l i)) (fun i=>i ≤ hi ∧ J i) (fun i=>hi - i) i ⟨hle,hJ⟩ hw (fun i hJ=>?_)
 have hh:=h i hJ.1 hJ.2
 exact dwp_mono a (fun τ hτ=>⟨i + 1,⟨hτ.1,hτ.2.1⟩,by have:=hτ.1; omega,hτ.2.2⟩) (fun _ _ h=>h) (fun _ h=>h) hh
theorem idL_0 : idL 0 = []:=rfl
theorem idL_1 : idL 1 = [1000000]:=rfl
theorem idL_2 : idL 2 = [1000000,1000001]:=rfl
theorem idL_3 : idL 3 = [1000000,1000001,1000002]:=rfl
theorem idL_4 : idL 4 = [1000000,1000001,1000002,1000003]:=rfl
def finB (σ : Env) (L : List Nat) : List Nat → List D → Prop
 | [],[]=>True
 | g :: l,d :: H=>(d = .any ∨ (d.isBlk = true ∧ σ g = d.ren L)) ∧ finB σ L l H
 | _,_=>False
theorem finB_at {σ : Env} {L : List Nat} : ∀ {l : List Nat} {H : List D},finB σ L l H → l.length = H.length ∧ ∀ (i : Nat) (d : D) (g : Nat),H[i]? = some d → l[i]? = some g → d = .any ∨ (d.isBlk = true ∧ σ g = d.ren L)
 | [],[],_=>⟨rfl,fun i d g h=>by simp at h⟩
 | [],_ :: _,h=>h.elim
 | _ :: _,[],h=>h.elim
 | g :: l,d :: H,h=>by
  obtain ⟨h1,h2⟩:=finB_at h.2
  refine ⟨by simp [h1],fun i d' g' hd hg=>?_⟩
  cases i with
  | zero=>
   obtain rfl : d = d':=by simpa using hd
   obtain rfl : g = g':=by simpa using hg
   exact h.1
  | succ i=>exact h2 i d' g' (by simpa using hd) (by simpa using hg)
theorem fin_L {rs : List Res} {r : D} {H' : List D} (L : List Nat) (hok : hold (resOk σ rs)) (hres : Sub (hold (resD σ rs)) (hold (r.ren L))) (hL : canB k L = true) (hb : hold (finB σ L L H')) : Fin k rs r H' σ:=
 ⟨σ,L,Wk.refl k σ,hok,hres,(finB_at (show finB σ L L H' from hb)).1,hL,(finB_at (show finB σ L L H' from hb)).2⟩
theorem fin_0 {rs : List Res} {r : D} (hok : hold (resOk σ rs)) (hp : r.pur = true) (hres : Sub (hold (resD σ rs)) (hold r)) : Fin 0 rs r [] σ:=
 fin_L [] hok (by rw [show hold (r.ren []) = r from ren_pure _ _ hp]; exact hres) rfl trivial
theorem fin_wk {rs : List Res} {r : D} {H' : List D} {τ : Env} (hw : Wk k σ τ) (h : Fin k rs r H' (hold τ)) : Fin k rs r H' σ:=by
 obtain ⟨τ',L,hw',hf⟩:=h
 exact ⟨τ',L,hw.trans hw',hf⟩
theorem wk_frz (t g : Nat) {s : Nat} {es : List D} (ht : t < nb) (hg : nb ≤ g) (hr : σ g = .row s es) (hp : D.purL es = true) : Wk k σ (Env.put (frzU σ t g s es) σ):=fun _ _ _ _ hR=>hR.frz ht hg hr hp
theorem wk_frzO (q g : Nat) {s : Nat} {es cs : List D} (hq : nb ≤ q) (hqg : q ≠ g) (hcs : σ q = .obj cs) (hg : nb ≤ g) (hr : σ g = .row s es) (hp : D.purL es = true) : Wk k σ (Env.put (frzO σ q g s es) σ):=fun _ _ _ _ hR=>hR.frzObj hq hqg hcs hg hr hp
theorem wk_rowO (q g : Nat) (s j : Nat) {cs : List D} (hq : nb ≤ q) (hg : nb ≤ g) (hqg : q ≠ g) (hr : σ q = .obj cs) (hj : cs[j]? = some .nul) (hf : σ g = .free) : Wk k σ ((σ.set g (.row s [])).set q (.obj (cs.set j (.own g s 0)))):=by
 rintro G a w - ⟨hd,F,m,h⟩
 have hmg : m g = none:=by have:=h.blks g hg; rw [hf] at this; exact this
 have h2:=h.name (δ:=.row s []) hg hf (Chg.refl w F noBlocks) h.wf none (.inl ⟨rfl,by simp⟩) (fun b hb=>by cases hb) (fun b hb=>by cases hb) (h.nameE hg (Chg.refl w F noBlocks) h.wf none (fun b hb=>by cases hb))
 have e : (σ.set g (.row s [])) q = .obj cs:=by rw [Env.set_ne _ _ _ _ hqg,hr]
 refine ⟨hd,F,_,h2.turn hq (by rw [e]; rfl) (Chg.refl w F _) h.wf ?_ (fun e=>by cases e)⟩
 have h3:=h2.blks q hq
 rw [e] at h3
 obtain ⟨b,cur,T,hm,hb,hc,hF⟩:=h3
 refine ⟨b,cur,T,hm,hb,⟨by rw [List.length_set]; exact hc.len,hc.one,fun i d u hd hu=>?_⟩,hF⟩
 rw [List.getElem?_set] at hd
 split at hd
 ·rename_i hij
  subst hij
  split at hd
  ·obtain rfl : D.own g s 0 = d:=by simpa using hd
   have h4:=hc.fz j _ u hj hu
   cases h4 with
   | nul _ a=>exact .own0 _ g s a (by simp)
  ·cases hd
 ·exact hc.fz i d u hd hu
theorem acc_none {B : List Nat} {l : List GI} {e : Ent} (h : evG P B l σ none N) : evG P B l σ (hold (push e none)) N:=h
theorem does0 {xo : List Nat} {f : FuncId} {n : Nat} {dc : DC} {rs : List Res} (hc : cfun P xo f = some (n,dc,rs)) (hm : P.follows .mixedOrders = true) {ds : List D} {r : D} (hl : ds.length ≤ n)
  (hd : dwp P 0 dc (hold (ent [] ds)) (Fin 0 rs r []) (fun _ _=>False) (Fin 0 rs r [])) : Does P f [] ds r []:=does_of hc hm hl hd
theorem does {xo : List Nat} {f : FuncId} {n : Nat} {dc : DC} {rs : List Res} (hc : cfun P xo f = some (n,dc,rs)) (hm : P.follows .mixedOrders = true) {H ds H' : List D} {r : D} (hl : ds.length ≤ n) (k : Nat) (hk : H.length = k)
  (hd : dwp P k dc (hold (ent H ds)) (Fin k rs r H') (fun _ _=>False) (Fin k rs r H')) : Does P f H ds r H':=by
 subst hk
 exact does_of hc hm hl hd
end
attribute [go_sem] idL_0 idL_1 idL_2 idL_3 idL_4 gh_eq zipU slotsOK namesOK neD hold_eq push_some oldOk newOk resD resOk Res.val Res.ok agr agr1 finB In.upd In.ok In.ent Opd.val Opd.rd optRd ownSl_t ownSl_f cpyU cpyOk cpyRoot clrU clrT Env.put skipUpd set_get base_get ent entL ofL ptrC ptrO ptrOk ptrRoot ptrD ptrMv elemSet stoU notPtr seqD seqOk seqRoot isSl lenD lenOk freeN_eq nb_eq frzU frzO D.frz D.frzL D.pur D.purL D.ren D.renL D.isBlk D.nmd nameOf callU List.zip_cons_cons List.zip_nil_left Nat.add_zero Nat.zero_add D.cells D.one D.getC D.getCok D.asC D.asCok D.int? D.setC D.setAll binD binOk binV binVok binS binSok eqB eqOk fillD fillOk elemsD elemsOk mmV intD intOk boundD boundOk Option.toList_some Option.toList_none List.flatMap_cons List.flatMap_nil List.map_nil List.map_cons List.cons_append List.nil_append List.append_nil List.getD_cons_zero List.getD_cons_succ List.getD_eq_getElem?_getD List.getElem?_cons_zero List.getElem?_cons_succ List.getElem?_nil List.set_cons_zero List.set_cons_succ List.take_succ_cons List.take_zero List.drop_succ_cons List.drop_zero List.length_cons List.length_nil List.length_map List.replicate_succ List.replicate_zero Option.getD_some Option.getD_none Option.isSome_some Option.isSome_none and_true true_and and_self and_false false_and or_true true_or or_false false_or Value.oneCell' Bool.not_true Bool.not_false Bool.and_self Bool.and_true Bool.true_and ne_eq not_false_eq_true not_true_eq_false Int.toNat_natCast Option.some.injEq Bool.false_eq_true decide_true decide_false
end
end Go.Proofs.Ytclkehekhdfnnaa
