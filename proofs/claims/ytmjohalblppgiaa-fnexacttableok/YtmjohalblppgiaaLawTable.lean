/- The law of TableOk, walked: it returns true at every argument. -/
import Derived.Test.YtmjohalblppgiaaTableEnd
import Derived.Test.YtmjohalblppgiaaToS
import Derived.Test.YtmjohalblppgiaaEqS
import Derived.Test.YtmjohalblppgiaaInts
namespace Go.Proofs.Ytmjohalblppgiaa
open Go.RowKit
set_option linter.unusedVariables false
set_option maxHeartbeats 1000000 in
theorem law_table (a : Option Addr) (n c : Nat) (ps : List PairV) (x : Int) (w : World) (hr : RdR PairV.cells 2 w a n ps) (hm : n ≤ maxLen) :
    Calls Try.prog 7 #[.slice a n c, .int .i64 x] w fun e w' => e = .returned (.bool true) ∧ Below w.heap.size w w' := by
  by_cases hs : (1048576 : Int) - n < 0
  · go_enter Try.func7, Try.ntmps7
    go_wp2_with fail
    refine (szPairS_any a n c _ w hm (by omega) (by omega)).mono ?_
    rintro e w1 ⟨rfl, rfl⟩
    rw [if_pos hs]
    go_wp2_with fail
    go_ret
    exact ⟨rfl, Below.refl _ _⟩
  have hn : n ≤ 1048576 := by omega
  have hne : (tableB ps x != tableB ps x) = false := by simp
  have HR := hide hr
  clear hr
  go_enter Try.func7, Try.ntmps7
  go_wp2_with fail
  refine (szPairS_any a n c _ w hm (by omega) (by omega)).mono ?_
  rintro e w1 ⟨rfl, rfl⟩
  rw [if_neg (show ¬ (1048576 : Int) - n < 0 by omega)]
  have hl0 : ¬ (1048576 : Int) - n < 0 := by omega
  clear hs
  generalize (1048576 : Int) - n = l at hl0 ⊢
  go_wp2_with fail
  refine (toPairS_any a n c ps _ (unhide HR) hn).mono ?_
  rintro e w2 ⟨g2, rfl, hr2, hb2, hg2, hz2⟩
  have H2 := hide hb2
  have R2 := hide hr2
  clear hr2 hb2 hg2 hz2
  go_wp2_with fail
  refine (specTableOk_any _ n n ps x w2 (unhide R2) (by omega)).mono ?_
  rintro e w3 ⟨rfl, rfl⟩
  clear R2
  go_wp2_with fail
  refine (toPairS_any a n c ps _ ((unhide HR).mono (by omega) PairV.len (unhide H2)) hn).mono ?_
  rintro e w4 ⟨g4, rfl, hr4, hb4, hg4, hz4⟩
  have H4 := hide ((unhide H2).trans (hb4.mono (unhide H2).size))
  have R4 := hide hr4
  clear hr4 hb4 hg4 hz4 H2
  go_wp2_with fail
  refine (tableOk_any _ n n ps x w4 (unhide R4) (by omega)).mono ?_
  rintro e w5 ⟨rfl, hb5⟩
  have H5 := hide ((unhide H4).trans (hb5.mono (unhide H4).size))
  have R5 := hide ((unhide R4).mono (by omega) PairV.len hb5)
  clear hb5 H4 R4
  go_wp2_with fail
  refine (toPairS_any a n c ps _ ((unhide HR).mono (by omega) PairV.len (unhide H5)) hn).mono ?_
  rintro e w6 ⟨g6, rfl, hr6, hb6, hg6, hz6⟩
  have H6 := hide ((unhide H5).trans (hb6.mono (unhide H5).size))
  have R6 := hide ((unhide R5).mono (by omega) PairV.len hb6)
  have S6 := hide hr6
  clear hr6 hb6 hg6 hz6 H5 R5
  go_wp2_with fail
  refine (eqPairS_same _ n n _ n ps w6 (unhide R6) (unhide S6) hn).mono ?_
  rintro e w7 ⟨rfl, hb7⟩
  have H7 := hide ((unhide H6).trans (hb7.mono (unhide H6).size))
  clear hb7 H6 R6 S6
  go_wp2_with fail
  go_ret
  exact ⟨rfl, unhide H7⟩
end Go.Proofs.Ytmjohalblppgiaa
