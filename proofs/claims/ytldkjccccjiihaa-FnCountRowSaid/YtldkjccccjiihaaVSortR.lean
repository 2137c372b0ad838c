/-
  Rows sorted by the library. No condition.
-/
import Derived.Test.YtldkjccccjiihaaVSort
import Derived.Test.YtldkjccccjiihaaVSrt
import Derived.Test.YtldkjccccjiihaaVLays
set_option maxHeartbeats 4000000
set_option maxRecDepth 100000
set_option linter.unusedVariables false
set_option linter.unusedSimpArgs false
namespace Go.Proofs.Ytldkjccccjiihaa
open Go.RowKit

def okR (w : Nat) (r : List V) : Prop := r.length = w ∧ ∀ v, v ∈ r → v.ok
theorem ord_rows (w : Nat) : OrdOn cmpR (okR w) where
  irrefl a _ := by have := cmpR_self a; omega
  trans a b c ha hb hc h1 h2 := (cmpR_trans a b c (by have := ha.1; have := hb.1; omega) (by have := hb.1; have := hc.1; omega) ha.2 hb.2 hc.2 (by omega)).2 h2
  ntrans a b c ha hb hc h1 h2 := by
    have e1 := cmpR_anti a b (by have := ha.1; have := hb.1; omega) ha.2 hb.2
    have e2 := cmpR_anti b c (by have := hb.1; have := hc.1; omega) hb.2 hc.2
    have e3 := cmpR_anti a c (by have := ha.1; have := hc.1; omega) ha.2 hc.2
    have := (cmpR_trans c b a (by have := hc.1; have := hb.1; omega) (by have := hb.1; have := ha.1; omega) hc.2 hb.2 ha.2 (by omega)).1 (by omega)
    omega
theorem sortL_srt {w : Nat} {rs : List (List V)} (h : RsW w rs) : sortL cmpR rs = srt rs := by
  have hp := sortL_perm (ord_rows w) rs h
  refine srt_unique h hp ?_
  refine List.Pairwise.imp_of_mem ?_ (sortL_asc (ord_rows w) rs h)
  intro a b ha hb hab
  have ga := h a (hp.mem_iff.1 ha)
  have gb := h b (hp.mem_iff.1 hb)
  have := cmpR_anti a b (by omega) ga.2 gb.2
  unfold leR
  omega
end Go.Proofs.Ytldkjccccjiihaa
