/-
  Rows of valid tables are sorted. Plain lemmas.
-/
import Derived.Test.YtedmegmhjmabcaaJSVTbI
import Derived.Test.YtedmegmhjmabcaaKSVSrt
import Derived.Test.YtedmegmhjmabcaaKSVSort
import Derived.Test.YtedmegmhjmabcaaKSVLays
set_option linter.unusedVariables false
namespace Go.Proofs.Ytedmegmhjmabcaa
open Go.RowKit
theorem asc_of_tOk {t : Ta} (h : tOk t) : Asc t.rows:=by
 refine List.pairwise_iff_getElem.2 (fun i j hi hj hij=>?_)
 have:=tOk_le h (j - i) i t.rows[i] t.rows[j] (List.getElem?_eq_getElem hi) (by rw [show i + (j - i) = j by omega]; exact List.getElem?_eq_getElem hj)
 exact this
theorem rsw_of_tOk {t : Ta} (h : tOk t) : RsW t.w.toNat t.rows:=fun r hr=>by
 obtain ⟨i,hi⟩:=List.mem_iff_getElem?.1 hr
 have:=h.2 i r hi
 exact ⟨by have:=this.1.2; omega,this.1.1.2⟩
end Go.Proofs.Ytedmegmhjmabcaa
set_option linter.unusedVariables false
namespace Go.Proofs.Ytedmegmhjmabcaa
open Go.RowKit
theorem rsw_app {w : Nat} {l m : List (List V)} (hl : RsW w l) (hm : RsW w m) : RsW w (l ++ m):=fun r hr=>by
 rcases List.mem_append.1 hr with h | h
 ·exact hl r h
 ·exact hm r h
end Go.Proofs.Ytedmegmhjmabcaa
set_option maxHeartbeats 4000000
set_option maxRecDepth 100000
set_option linter.unusedVariables false
set_option linter.unusedSimpArgs false
namespace Go.Proofs.Ytedmegmhjmabcaa
open Go.RowKit
def okR (w : Nat) (r : List V) : Prop:=r.length = w ∧ ∀ v,v ∈ r → v.ok
theorem ord_rows (w : Nat) : OrdOn cmpR (okR w) where
 irrefl a _:=by have:=cmpR_self a; omega
 trans a b c ha hb hc h1 h2:=(cmpR_trans a b c (by have:=ha.1; have:=hb.1; omega) (by have:=hb.1; have:=hc.1; omega) ha.2 hb.2 hc.2 (by omega)).2 h2
 ntrans a b c ha hb hc h1 h2:=by
  have e1:=cmpR_anti a b (by have:=ha.1; have:=hb.1; omega) ha.2 hb.2
  have e2:=cmpR_anti b c (by have:=hb.1; have:=hc.1; omega) hb.2 hc.2
  have e3:=cmpR_anti a c (by have:=ha.1; have:=hc.1; omega) ha.2 hc.2
  have:=(cmpR_trans c b a (by have:=hc.1; have:=hb.1; omega) (by have:=hb.1; have:=ha.1; omega) hc.2 hb.2 ha.2 (by omega)).1 (by omega)
  omega
theorem sortL_srt {w : Nat} {rs : List (List V)} (h : RsW w rs) : sortL cmpR rs = srt rs:=by
 have hp:=sortL_perm (ord_rows w) rs h
 refine srt_unique h hp ?_
 refine List.Pairwise.imp_of_mem ?_ (sortL_asc (ord_rows w) rs h)
 intro a b ha hb hab
 have ga:=h a (hp.mem_iff.1 ha)
 have gb:=h b (hp.mem_iff.1 hb)
 have:=cmpR_anti a b (by omega) ga.2 gb.2
 unfold leR
 omega
theorem sortRows_ok (w : Nat) (hw : w < 1000) (rs : List (List V)) (h : RsW w rs) (hl : rs.length ≤ 100000) : Does Try.prog 128 [.row 1 (rs.map rowD)] [.own 1000000 1 rs.length,.fn 90 []] (.tup []) [.row 1 ((srt rs).map rowD)]:=by
 have:=sort_own rowsSort (g:=90) (by kernel_rfl) (caps:=[]) rfl rowD (fun _=>rfl) (fun _=>rfl) (ord_rows w) (fun a b ha hb=>compareRows_impl a b (by have:=ha.1; have:=hb.1; omega) (by have:=ha.1; omega) ha.2 hb.2) rs h (by omega)
 rw [sortL_srt h] at this
 exact this
end Go.Proofs.Ytedmegmhjmabcaa
