/-
  A plan with another part at a path. No condition.
-/
import Derived.Test.YtgpdmgaemhelgaaGreatJSVWf
import Derived.Test.YtgpdmgaemhelgaaGreatJSVColsC
import Derived.Test.YtgpdmgaemhelgaaGreatJSVEvI
import Derived.Test.YtgpdmgaemhelgaaGreatJSVWidF
import Derived.Test.YtgpdmgaemhelgaaGreatJSVOcc
set_option maxHeartbeats 4000000
set_option maxRecDepth 100000
set_option linter.unusedVariables false
set_option linter.unusedSimpArgs false
namespace Go.Proofs.YtgpdmgaemhelgaaGreat
open Go.RowKit
def repP : Pl → List Int → Pl → Pl
 | _,[],q=>q
 | p,i :: l,q=>.mk p.k p.t p.es p.cs (p.ks.set i.toNat (repP (p.ks.getD i.toNat zP) l q))
theorem rep_cons (p : Pl) (i : Int) (l : List Int) (q : Pl) : repP p (i :: l) q = .mk p.k p.t p.es p.cs (p.ks.set i.toNat (repP (p.ks.getD i.toNat zP) l q)):=rfl
theorem kidAt_1 {k t : Int} {es : List E} {cs : List Int} {q x : Pl} {i : Int} (h : kidAt (.mk k t es cs [q]) i = some x) : i = 0 ∧ x = q:=by
 obtain ⟨h0,h1,h2⟩:=kidAt_some h
 simp only [Pl.ks,List.length_cons,List.length_nil] at h1 h2
 obtain rfl : i = 0:=by omega
 exact ⟨rfl,by simpa using h2.symm⟩
theorem kidAt_2 {k t : Int} {es : List E} {cs : List Int} {q r x : Pl} {i : Int} (h : kidAt (.mk k t es cs [q,r]) i = some x) : (i = 0 ∧ x = q) ∨ (i = 1 ∧ x = r):=by
 obtain ⟨h0,h1,h2⟩:=kidAt_some h
 simp only [Pl.ks,List.length_cons,List.length_nil] at h1 h2
 by_cases hi : i = 0
 ·subst hi
  exact .inl ⟨rfl,by simpa using h2.symm⟩
 ·obtain rfl : i = 1:=by omega
  exact .inr ⟨rfl,by simpa using h2.symm⟩
theorem rep_wf {ws : List Int} (hw : wsOk ws) : ∀ (l : List Int) {p a : Pl} {d : Nat} {w : Int},Wf ws p d w → paOf p l = some a → ∃ (u : Int) (e : Nat),d = e + l.length ∧ Wf ws a e u ∧ (∀ q,Wf ws q e u → Wf ws (repP p l q) d w) ∧ (∀ q w',Wf ws (repP p l q) d w' → ∃ u',Wf ws q e u'):=by
 intro l
 induction l with
 | nil=>
  intro p a d w h ha
  obtain rfl : p = a:=by simpa [paOf] using ha
  exact ⟨w,d,rfl,h,fun q hq=>hq,fun q w' hq=>⟨w',hq⟩⟩
 | cons i l ih=>
  intro p a d w h ha
  rw [paOf] at ha
  cases hk : kidAt p i with
  | none=>rw [hk] at ha; cases ha
  | some x=>
   rw [hk] at ha
   have ha' : paOf x l = some a:=ha
   cases h with
   | @scan t d h=>
    obtain ⟨h0,h1,_⟩:=kidAt_some hk
    simp only [Pl.ks,List.length_nil] at h1
    omega
   | @filter e q0 d w hq he=>
    obtain ⟨rfl,rfl⟩:=kidAt_1 hk
    obtain ⟨u,f,hd,hu,h1,h2⟩:=ih hq ha'
    refine ⟨u,f,by rw [List.length_cons]; omega,hu,fun q hq'=>?_,fun q w' hq'=>?_⟩
    ·rw [rep_cons]
     exact Wf.filter (h1 q hq') he
    ·rw [rep_cons] at hq'
     cases hq' with
     | filter hq2 _=>exact h2 q _ hq2
   | @project es q0 d u0 hq hl he=>
    obtain ⟨rfl,rfl⟩:=kidAt_1 hk
    obtain ⟨u,f,hd,hu,h1,h2⟩:=ih hq ha'
    refine ⟨u,f,by rw [List.length_cons]; omega,hu,fun q hq'=>?_,fun q w' hq'=>?_⟩
    ·rw [rep_cons]
     exact Wf.project (h1 q hq') hl he
    ·rw [rep_cons] at hq'
     cases hq' with
     | project hq2 _ _=>exact h2 q _ hq2
   | @join k e q0 r0 d a0 b0 hk4 hq hr hab he=>
    rcases kidAt_2 hk with ⟨rfl,rfl⟩ | ⟨rfl,rfl⟩
    ·obtain ⟨u,f,hd,hu,h1,h2⟩:=ih hq ha'
     refine ⟨u,f,by rw [List.length_cons]; omega,hu,fun q hq'=>?_,fun q w' hq'=>?_⟩
     ·rw [rep_cons]
      exact Wf.join hk4 (h1 q hq') hr hab he
     ·rw [rep_cons] at hq'
      cases hq' with
      | join _ hq2 _ _ _=>exact h2 q _ hq2
    ·obtain ⟨u,f,hd,hu,h1,h2⟩:=ih hr ha'
     refine ⟨u,f,by rw [List.length_cons]; omega,hu,fun q hq'=>?_,fun q w' hq'=>?_⟩
     ·rw [rep_cons]
      exact Wf.join hk4 hq (h1 q hq') hab he
     ·rw [rep_cons] at hq'
      cases hq' with
      | join _ _ hq2 _ _=>exact h2 q _ hq2
   | @union q0 r0 d w hq hr=>
    rcases kidAt_2 hk with ⟨rfl,rfl⟩ | ⟨rfl,rfl⟩
    ·obtain ⟨u,f,hd,hu,h1,h2⟩:=ih hq ha'
     refine ⟨u,f,by rw [List.length_cons]; omega,hu,fun q hq'=>?_,fun q w' hq'=>?_⟩
     ·rw [rep_cons]
      exact Wf.union (h1 q hq') hr
     ·rw [rep_cons] at hq'
      cases hq' with
      | union hq2 _=>exact h2 q _ hq2
    ·obtain ⟨u,f,hd,hu,h1,h2⟩:=ih hr ha'
     refine ⟨u,f,by rw [List.length_cons]; omega,hu,fun q hq'=>?_,fun q w' hq'=>?_⟩
     ·rw [rep_cons]
      exact Wf.union hq (h1 q hq')
     ·rw [rep_cons] at hq'
      cases hq' with
      | union _ hq2=>exact h2 q _ hq2
   | @distinct q0 d w hq=>
    obtain ⟨rfl,rfl⟩:=kidAt_1 hk
    obtain ⟨u,f,hd,hu,h1,h2⟩:=ih hq ha'
    refine ⟨u,f,by rw [List.length_cons]; omega,hu,fun q hq'=>?_,fun q w' hq'=>?_⟩
    ·rw [rep_cons]
     exact Wf.distinct (h1 q hq')
    ·rw [rep_cons] at hq'
     cases hq' with
     | distinct hq2=>exact h2 q _ hq2
   | @group cs q0 d w hq hc=>
    obtain ⟨rfl,rfl⟩:=kidAt_1 hk
    obtain ⟨u,f,hd,hu,h1,h2⟩:=ih hq ha'
    refine ⟨u,f,by rw [List.length_cons]; omega,hu,fun q hq'=>?_,fun q w' hq'=>?_⟩
    ·rw [rep_cons]
     exact Wf.group (h1 q hq') hc
    ·rw [rep_cons] at hq'
     cases hq' with
     | group hq2 _=>exact h2 q _ hq2
end Go.Proofs.YtgpdmgaemhelgaaGreat
set_option maxHeartbeats 4000000
set_option maxRecDepth 100000
set_option linter.unusedVariables false
set_option linter.unusedSimpArgs false
namespace Go.Proofs.YtgpdmgaemhelgaaGreat
open Go.RowKit
def andE (a b : E) : E:=.mk 8 0 ⟨false,0⟩ [a,b]
def eOf (p : Pl) : E:=p.es.getD 0 zE
def kOf (p : Pl) : Pl:=p.ks.getD 0 zP
def lOf (p : Pl) : Pl:=p.ks.getD 1 zP
def colF (b : Int) (n : Nat) : List E:=(List.range n).map fun i : Nat=>.mk 1 (b + i) ⟨false,0⟩ []
theorem colF_len (b : Int) (n : Nat) : (colF b n).length = n:=by unfold colF; rw [List.length_map,List.length_range]
theorem colF_get {b : Int} {n i : Nat} (h : i < n) : (colF b n)[i]? = some (.mk 1 (b + i) ⟨false,0⟩ []):=by
 unfold colF
 rw [List.getElem?_map,List.getElem?_range h]
 rfl
def byR (a b : Int) : List E:=colF 0 a.toNat ++ colF 0 b.toNat
def byB (a b : Int) : List E:=colF b a.toNat ++ colF 0 b.toNat
def lowC (e : E) (a : Int) : Prop:=∀ c,c ∈ marked (occ e) 6 → (c : Int) < a
def highC (e : E) (a : Int) : Prop:=∀ c,c ∈ marked (occ e) 6 → a ≤ (c : Int)
noncomputable instance lowDec (e : E) (a : Int) : Decidable (lowC e a):=Classical.propDecidable _
noncomputable instance highDec (e : E) (a : Int) : Decidable (highC e a):=Classical.propDecidable _
def nulC (a b : Int) : List Int:=(List.range b.toNat).map fun i : Nat=>a + i
def rejB (e : E) (a b : Int) : Bool:=intBit .and .i64 (oc e (stL (nulC a b) (a + b).toNat)) 2 == 0
noncomputable def ru1 (p : Pl) : Option Pl:=if p.k = 2 ∧ (kOf p).k = 2 then some (fiP (andE (eOf (kOf p)) (eOf p)) (kOf (kOf p))) else none
noncomputable def ru2 (p : Pl) : Option Pl:=if p.k = 2 ∧ (eOf p).k = 8 then some (fiP ((eOf p).ks.getD 1 zE) (fiP ((eOf p).ks.getD 0 zE) (kOf p))) else none
noncomputable def ru3 (ws : List Int) (p : Pl) : Option Pl:=if p.k = 2 ∧ ((kOf p).k = 4 ∨ (kOf p).k = 5) ∧ lowC (eOf p) (wdV ws (kOf (kOf p)) 8) then some (.mk (kOf p).k 0 (kOf p).es [] [fiP (eOf p) (kOf (kOf p)),lOf (kOf p)]) else none
noncomputable def ru4 (ws : List Int) (p : Pl) : Option Pl:=if p.k = 2 ∧ (kOf p).k = 4 ∧ highC (eOf p) (wdV ws (kOf (kOf p)) 8) then some (.mk 4 0 (kOf p).es [] [kOf (kOf p),fiP (subE (byR (wdV ws (kOf (kOf p)) 8) (wdV ws (lOf (kOf p)) 8)) (eOf p)) (lOf (kOf p))]) else none
noncomputable def ru5 (p : Pl) : Option Pl:=if p.k = 2 ∧ (kOf p).k = 4 then some (.mk 4 0 [andE (eOf (kOf p)) (eOf p)] [] (kOf p).ks) else none
noncomputable def ru6 (ws : List Int) (p : Pl) : Option Pl:=if p.k = 4 then some (prP (byB (wdV ws (kOf p) 8) (wdV ws (lOf p) 8)) (.mk 4 0 [subE (byB (wdV ws (kOf p) 8) (wdV ws (lOf p) 8)) (eOf p)] [] [lOf p,kOf p])) else none
noncomputable def ru7 (ws : List Int) (p : Pl) : Option Pl:=if p.k = 2 ∧ (kOf p).k = 5 ∧ rejB (eOf p) (wdV ws (kOf (kOf p)) 8) (wdV ws (lOf (kOf p)) 8) = true then some (fiP (eOf p) (.mk 4 0 (kOf p).es [] (kOf p).ks)) else none
noncomputable def ru8 (p : Pl) : Option Pl:=if p.k = 2 ∧ (kOf p).k = 6 then some (.mk 6 0 [] [] [fiP (eOf p) (kOf (kOf p)),fiP (eOf p) (lOf (kOf p))]) else none
noncomputable def ru9 (p : Pl) : Option Pl:=if p.k = 7 ∧ ((kOf p).k = 7 ∨ (kOf p).k = 8) then some (kOf p) else none
noncomputable def ru10 (p : Pl) : Option Pl:=if p.k = 2 ∧ (kOf p).k = 3 then some (.mk 3 0 (kOf p).es [] [fiP (subE (kOf p).es (eOf p)) (kOf (kOf p))]) else none
noncomputable def ru11 (p : Pl) : Option Pl:=if p.k = 3 ∧ (kOf p).k = 3 then some (.mk 3 0 (p.es.map (subE (kOf p).es)) [] (kOf p).ks) else none
noncomputable def ruP (ws : List Int) (r : Int) (p : Pl) : Option Pl:=
 if r = 1 then ru1 p else if r = 2 then ru2 p else if r = 3 then ru3 ws p else if r = 4 then ru4 ws p else if r = 5 then ru5 p else if r = 6 then ru6 ws p else if r = 7 then ru7 ws p else if r = 8 then ru8 p else if r = 9 then ru9 p else if r = 10 then ru10 p else if r = 11 then ru11 p else none
theorem eOf_mk (k t : Int) (e : E) (es : List E) (cs : List Int) (ks : List Pl) : eOf (.mk k t (e :: es) cs ks) = e:=rfl
theorem kOf_mk (k t : Int) (es : List E) (cs : List Int) (q : Pl) (ks : List Pl) : kOf (.mk k t es cs (q :: ks)) = q:=rfl
theorem lOf_mk (k t : Int) (es : List E) (cs : List Int) (q r : Pl) (ks : List Pl) : lOf (.mk k t es cs (q :: r :: ks)) = r:=rfl
/-! A plan of a kind. -/
theorem wf_2 {ws : List Int} {p : Pl} {d : Nat} {w : Int} (h : Wf ws p d w) (hk : p.k = 2) : ∃ e q f,p = .mk 2 0 [e] [] [q] ∧ d = f + 1 ∧ Wf ws q f w ∧ eOk e w 8:=by
 cases h with
 | filter hq he=>exact ⟨_,_,_,rfl,rfl,hq,he⟩
 | join hk4 _ _ _ _=>simp only [Pl.k] at hk; omega
 | _=>simp [Pl.k] at hk
theorem wf_3 {ws : List Int} {p : Pl} {d : Nat} {w : Int} (h : Wf ws p d w) (hk : p.k = 3) : ∃ es q f u,p = .mk 3 0 es [] [q] ∧ d = f + 1 ∧ w = (es.length : Int) ∧ Wf ws q f u ∧ (1 ≤ es.length ∧ es.length ≤ 6) ∧ ∀ e,e ∈ es → eOk e u 8:=by
 cases h with
 | project hq hl he=>exact ⟨_,_,_,_,rfl,rfl,rfl,hq,hl,he⟩
 | join hk4 _ _ _ _=>simp only [Pl.k] at hk; omega
 | _=>simp [Pl.k] at hk
theorem wf_45 {ws : List Int} {p : Pl} {d : Nat} {w : Int} (h : Wf ws p d w) (hk : p.k = 4 ∨ p.k = 5) : ∃ e q r f a b,p = .mk p.k 0 [e] [] [q,r] ∧ d = f + 1 ∧ w = a + b ∧ Wf ws q f a ∧ Wf ws r f b ∧ a + b ≤ 6 ∧ eOk e (a + b) 8:=by
 cases h with
 | join hk4 hq hr hab he=>exact ⟨_,_,_,_,_,_,rfl,rfl,rfl,hq,hr,hab,he⟩
 | _=>simp only [Pl.k] at hk; omega
theorem wf_6 {ws : List Int} {p : Pl} {d : Nat} {w : Int} (h : Wf ws p d w) (hk : p.k = 6) : ∃ q r f,p = .mk 6 0 [] [] [q,r] ∧ d = f + 1 ∧ Wf ws q f w ∧ Wf ws r f w:=by
 cases h with
 | union hq hr=>exact ⟨_,_,_,rfl,rfl,hq,hr⟩
 | join hk4 _ _ _ _=>simp only [Pl.k] at hk; omega
 | _=>simp [Pl.k] at hk
theorem wf_7 {ws : List Int} {p : Pl} {d : Nat} {w : Int} (h : Wf ws p d w) (hk : p.k = 7) : ∃ q f,p = .mk 7 0 [] [] [q] ∧ d = f + 1 ∧ Wf ws q f w:=by
 cases h with
 | distinct hq=>exact ⟨_,_,rfl,rfl,hq⟩
 | join hk4 _ _ _ _=>simp only [Pl.k] at hk; omega
 | _=>simp [Pl.k] at hk
/-! The width is kept. -/
theorem kp1 {ws : List Int} (hw : wsOk ws) {p q : Pl} {d d' : Nat} {w w' : Int} (h : Wf ws p d w) (hq : Wf ws q d' w') (hr : ru1 p = some q) : w' = w:=by
 unfold ru1 at hr
 split at hr
 ·rename_i hk
  obtain ⟨e,k,f,rfl,rfl,h1,_⟩:=wf_2 h hk.1
  obtain ⟨e',k',f',rfl,rfl,h2,_⟩:=wf_2 h1 hk.2
  cases hr
  cases hq with
  | filter h3 _=>exact wf_same hw h3 h2
 ·cases hr
theorem kp2 {ws : List Int} (hw : wsOk ws) {p q : Pl} {d d' : Nat} {w w' : Int} (h : Wf ws p d w) (hq : Wf ws q d' w') (hr : ru2 p = some q) : w' = w:=by
 unfold ru2 at hr
 split at hr
 ·rename_i hk
  obtain ⟨e,k,f,rfl,rfl,h1,_⟩:=wf_2 h hk.1
  cases hr
  cases hq with
  | filter h3 _=>
   cases h3 with
   | filter h4 _=>exact wf_same hw h4 h1
 ·cases hr
theorem kp3 {ws : List Int} (hw : wsOk ws) {p q : Pl} {d d' : Nat} {w w' : Int} (h : Wf ws p d w) (hq : Wf ws q d' w') (hr : ru3 ws p = some q) : w' = w:=by
 unfold ru3 at hr
 split at hr
 ·rename_i hk
  obtain ⟨e,k,f,rfl,rfl,h1,_⟩:=wf_2 h hk.1
  have hk2:=hk.2.1
  rw [kOf_mk] at hk2
  obtain ⟨e',x,y,g,a,b,hp,rfl,rfl,h2,h3,_,_⟩:=wf_45 h1 hk2
  generalize k.k = kk at *
  subst hp
  cases hr
  simp only [eOf_mk,kOf_mk,lOf_mk,Pl.k,Pl.es] at hq
  cases hq with
  | join _ h4 h5 _ _=>
   cases h4 with
   | filter h6 _=>
    have e1:=wf_same hw h6 h2
    have e2:=wf_same hw h5 h3
    rw [e1,e2]
 ·cases hr
theorem kp4 {ws : List Int} (hw : wsOk ws) {p q : Pl} {d d' : Nat} {w w' : Int} (h : Wf ws p d w) (hq : Wf ws q d' w') (hr : ru4 ws p = some q) : w' = w:=by
 unfold ru4 at hr
 split at hr
 ·rename_i hk
  obtain ⟨e,k,f,rfl,rfl,h1,_⟩:=wf_2 h hk.1
  have hk2:=hk.2.1
  rw [kOf_mk] at hk2
  obtain ⟨e',x,y,g,a,b,hp,rfl,rfl,h2,h3,_,_⟩:=wf_45 h1 (.inl hk2)
  generalize k.k = kk at *
  subst hp
  cases hr
  simp only [eOf_mk,kOf_mk,lOf_mk,Pl.k,Pl.es] at hq
  cases hq with
  | join _ h4 h5 _ _=>
   cases h5 with
   | filter h6 _=>
    have e1:=wf_same hw h4 h2
    have e2:=wf_same hw h6 h3
    rw [e1,e2]
 ·cases hr
theorem kp5 {ws : List Int} (hw : wsOk ws) {p q : Pl} {d d' : Nat} {w w' : Int} (h : Wf ws p d w) (hq : Wf ws q d' w') (hr : ru5 p = some q) : w' = w:=by
 unfold ru5 at hr
 split at hr
 ·rename_i hk
  obtain ⟨e,k,f,rfl,rfl,h1,_⟩:=wf_2 h hk.1
  have hk2:=hk.2
  rw [kOf_mk] at hk2
  obtain ⟨e',x,y,g,a,b,hp,rfl,rfl,h2,h3,_,_⟩:=wf_45 h1 (.inl hk2)
  generalize k.k = kk at *
  subst hp
  cases hr
  simp only [eOf_mk,kOf_mk,lOf_mk,Pl.k,Pl.es,Pl.ks] at hq
  cases hq with
  | join _ h4 h5 _ _=>
   have e1:=wf_same hw h4 h2
   have e2:=wf_same hw h5 h3
   rw [e1,e2]
 ·cases hr
theorem kp6 {ws : List Int} (hw : wsOk ws) {p q : Pl} {d d' : Nat} {w w' : Int} (h : Wf ws p d w) (hd : d ≤ 8) (hq : Wf ws q d' w') (hr : ru6 ws p = some q) : w' = w:=by
 unfold ru6 at hr
 split at hr
 ·rename_i hk
  obtain ⟨e',x,y,g,a,b,hp,rfl,rfl,h2,h3,_,_⟩:=wf_45 h (.inl hk)
  generalize p.k = kk at *
  subst hp
  obtain ⟨w1,w2⟩:=wf_to hw (wf_mono hw h2 (show g ≤ 8 by omega))
  obtain ⟨w3,w4⟩:=wf_to hw (wf_mono hw h3 (show g ≤ 8 by omega))
  cases hr
  simp only [eOf_mk,kOf_mk,lOf_mk,Pl.k,Pl.es,Pl.ks,w1,w3] at hq
  obtain ⟨es,q',f',u',hp2,_,hw',_,_,_⟩:=wf_3 hq rfl
  simp only [prP,Pl.mk.injEq,true_and] at hp2
  rw [hw',← hp2.1]
  unfold byB
  rw [List.length_append,colF_len,colF_len]
  omega
 ·cases hr
theorem kp7 {ws : List Int} (hw : wsOk ws) {p q : Pl} {d d' : Nat} {w w' : Int} (h : Wf ws p d w) (hq : Wf ws q d' w') (hr : ru7 ws p = some q) : w' = w:=by
 unfold ru7 at hr
 split at hr
 ·rename_i hk
  obtain ⟨e,k,f,rfl,rfl,h1,_⟩:=wf_2 h hk.1
  have hk2:=hk.2.1
  rw [kOf_mk] at hk2
  obtain ⟨e',x,y,g,a,b,hp,rfl,rfl,h2,h3,_,_⟩:=wf_45 h1 (.inr hk2)
  generalize k.k = kk at *
  subst hp
  cases hr
  simp only [eOf_mk,kOf_mk,lOf_mk,Pl.k,Pl.es,Pl.ks] at hq
  cases hq with
  | filter h6 _=>
   cases h6 with
   | join _ h4 h5 _ _=>
    have e1:=wf_same hw h4 h2
    have e2:=wf_same hw h5 h3
    rw [e1,e2]
 ·cases hr
theorem kp8 {ws : List Int} (hw : wsOk ws) {p q : Pl} {d d' : Nat} {w w' : Int} (h : Wf ws p d w) (hq : Wf ws q d' w') (hr : ru8 p = some q) : w' = w:=by
 unfold ru8 at hr
 split at hr
 ·rename_i hk
  obtain ⟨e,k,f,rfl,rfl,h1,_⟩:=wf_2 h hk.1
  have hk2:=hk.2
  rw [kOf_mk] at hk2
  obtain ⟨x,y,g,rfl,rfl,h2,h3⟩:=wf_6 h1 hk2
  cases hr
  simp only [eOf_mk,kOf_mk,lOf_mk,Pl.k,Pl.es,Pl.ks] at hq
  cases hq with
  | union h4 _=>
   cases h4 with
   | filter h6 _=>exact wf_same hw h6 h2
 ·cases hr
theorem kp9 {ws : List Int} (hw : wsOk ws) {p q : Pl} {d d' : Nat} {w w' : Int} (h : Wf ws p d w) (hq : Wf ws q d' w') (hr : ru9 p = some q) : w' = w:=by
 unfold ru9 at hr
 split at hr
 ·rename_i hk
  obtain ⟨k,f,rfl,rfl,h1⟩:=wf_7 h hk.1
  cases hr
  exact wf_same hw hq h1
 ·cases hr
theorem kp10 {ws : List Int} (hw : wsOk ws) {p q : Pl} {d d' : Nat} {w w' : Int} (h : Wf ws p d w) (hq : Wf ws q d' w') (hr : ru10 p = some q) : w' = w:=by
 unfold ru10 at hr
 split at hr
 ·rename_i hk
  obtain ⟨e,k,f,rfl,rfl,h1,_⟩:=wf_2 h hk.1
  obtain ⟨es,x,g,u,rfl,rfl,rfl,h2,_,_⟩:=wf_3 h1 hk.2
  cases hr
  simp only [eOf_mk,kOf_mk,lOf_mk,Pl.k,Pl.es,Pl.ks] at hq
  cases hq with
  | project _ _ _=>rfl
 ·cases hr
theorem kp11 {ws : List Int} (hw : wsOk ws) {p q : Pl} {d d' : Nat} {w w' : Int} (h : Wf ws p d w) (hq : Wf ws q d' w') (hr : ru11 p = some q) : w' = w:=by
 unfold ru11 at hr
 split at hr
 ·rename_i hk
  obtain ⟨es,k,f,u,rfl,rfl,rfl,h1,_,_⟩:=wf_3 h hk.1
  obtain ⟨fs,x,g,v,rfl,rfl,rfl,h2,_,_⟩:=wf_3 h1 hk.2
  cases hr
  simp only [eOf_mk,kOf_mk,lOf_mk,Pl.k,Pl.es,Pl.ks] at hq
  obtain ⟨gs,q',f',u',hp2,_,hw',_,_,_⟩:=wf_3 hq rfl
  simp only [prP,Pl.mk.injEq,true_and] at hp2
  rw [hw',← hp2.1,List.length_map]
 ·cases hr
theorem keeps {ws : List Int} (hw : wsOk ws) {p q : Pl} {r : Int} {d d' : Nat} {w w' : Int} (h : Wf ws p d w) (hd : d ≤ 8) (hq : Wf ws q d' w') (hr : ruP ws r p = some q) : w' = w:=by
 unfold ruP at hr
 split at hr; · exact kp1 hw h hq hr
 split at hr; · exact kp2 hw h hq hr
 split at hr; · exact kp3 hw h hq hr
 split at hr; · exact kp4 hw h hq hr
 split at hr; · exact kp5 hw h hq hr
 split at hr; · exact kp6 hw h hd hq hr
 split at hr; · exact kp7 hw h hq hr
 split at hr; · exact kp8 hw h hq hr
 split at hr; · exact kp9 hw h hq hr
 split at hr; · exact kp10 hw h hq hr
 split at hr; · exact kp11 hw h hq hr
 cases hr
end Go.Proofs.YtgpdmgaemhelgaaGreat
