/- The law of Transitive, walked: it returns true at every argument. -/
import Derived.Test.YtmjohalblppgiaaTrans
import Derived.Test.YtmjohalblppgiaaToS
import Derived.Test.YtmjohalblppgiaaEqS
import Derived.Test.YtmjohalblppgiaaInts
namespace Go.Proofs.Ytmjohalblppgiaa
open Go.RowKit
set_option linter.unusedVariables false
set_option maxHeartbeats 1000000 in
theorem law_transitive (a : Option Addr) (n c : Nat) (ps : List PairV) (a' : Option Addr) (n' c' : Nat) (l : List Int) (w : World) (hr : RdR PairV.cells 2 w a n ps) (hm : n ≤ maxLen) (hr' : Rd w a' n' l) (hm' : n' ≤ maxLen) :
    Calls Try.prog 8 #[.slice a n c, .slice a' n' c'] w fun e w' => e = .returned (.bool true) ∧ Below w.heap.size w w' := by
  by_cases hn' : n' ≤ 1048576
  case neg =>
    have hgt : (1048576 : Int) < (n' : Int) := by omega
    unfold maxLen at hm'
    go_enter Try.func8, Try.ntmps8
    go_wp2_with fail
    go_ret
    exact ⟨rfl, Below.refl _ _⟩
  have hgt : ¬ (1048576 : Int) < (n' : Int) := by omega
  by_cases hs : (1048576 : Int) - n < 0
  · go_enter Try.func8, Try.ntmps8
    go_wp2_with fail
    refine (szPairS_any a n c _ w hm (by omega) (by omega)).mono ?_
    rintro e w1 ⟨rfl, rfl⟩
    rw [if_pos hs]
    go_wp2_with fail
    go_ret
    exact ⟨rfl, Below.refl _ _⟩
  have hn : n ≤ 1048576 := by omega
  have hne : (transB ps l != transB ps l) = false := by simp
  have HR := hide hr
  have HR' := hide hr'
  clear hr hr'
  go_enter Try.func8, Try.ntmps8
  go_wp2_with fail
  refine (szPairS_any a n c _ w hm (by omega) (by omega)).mono ?_
  rintro e w1 ⟨rfl, rfl⟩
  rw [if_neg (show ¬ (1048576 : Int) - n < 0 by omega)]
  have hl0 : ¬ (1048576 : Int) - n < 0 := by omega
  clear hs
  generalize (1048576 : Int) - n = q at hl0 ⊢
  go_wp2_with fail
  refine (toPairS_any a n c ps _ (unhide HR) hn).mono ?_
  rintro e w2 ⟨g2, rfl, hr2, hb2, hg2, hz2⟩
  have H2 := hide hb2
  have R2 := hide hr2
  clear hr2 hb2 hg2 hz2
  go_wp2_with fail
  refine (toIntS_any a' n' c' l _ ((unhide HR').mono (unhide H2)) hn').mono ?_
  rintro e w3 ⟨rfl, ho3, hb3⟩
  have H3 := hide ((unhide H2).trans (hb3.mono (unhide H2).size))
  have R3 := hide ((unhide R2).mono (by omega) PairV.len hb3)
  have S3 := hide (Rd.of_owns ho3)
  clear ho3 hb3 H2 R2
  go_wp2_with fail
  refine (specTransitive_any _ n n ps _ n' n' l w3 (unhide R3) (unhide S3) (by omega) (by omega)).mono ?_
  rintro e w4 ⟨rfl, hb4⟩
  have H4 := hide ((unhide H3).trans (hb4.mono (unhide H3).size))
  clear hb4 H3 R3 S3
  go_wp2_with fail
  refine (toPairS_any a n c ps _ ((unhide HR).mono (by omega) PairV.len (unhide H4)) hn).mono ?_
  rintro e w5 ⟨g5, rfl, hr5, hb5, hg5, hz5⟩
  have H5 := hide ((unhide H4).trans (hb5.mono (unhide H4).size))
  have R5 := hide hr5
  clear hr5 hb5 hg5 hz5 H4
  go_wp2_with fail
  refine (toIntS_any a' n' c' l _ ((unhide HR').mono (unhide H5)) hn').mono ?_
  rintro e w6 ⟨rfl, ho6, hb6⟩
  have H6 := hide ((unhide H5).trans (hb6.mono (unhide H5).size))
  have R6 := hide ((unhide R5).mono (by omega) PairV.len hb6)
  have S6 := hide (Rd.of_owns ho6)
  generalize w5.heap.size = z5 at S6 ⊢
  clear ho6 hb6 H5 R5
  go_wp2_with fail
  refine (transitive_any _ n n ps _ n' n' l w6 (unhide R6) (unhide S6) (by omega) (by omega)).mono ?_
  rintro e w7 ⟨rfl, hb7⟩
  have H7 := hide ((unhide H6).trans (hb7.mono (unhide H6).size))
  have R7 := hide ((unhide R6).mono (by omega) PairV.len hb7)
  have S7 := hide ((unhide S6).mono hb7)
  clear hb7 H6 R6 S6
  go_wp2_with fail
  refine (toPairS_any a n c ps _ ((unhide HR).mono (by omega) PairV.len (unhide H7)) hn).mono ?_
  rintro e w8 ⟨g8, rfl, hr8, hb8, hg8, hz8⟩
  have H8 := hide ((unhide H7).trans (hb8.mono (unhide H7).size))
  have R8 := hide ((unhide R7).mono (by omega) PairV.len hb8)
  have S8 := hide ((unhide S7).mono hb8)
  have T8 := hide hr8
  clear hr8 hb8 hg8 hz8 H7 R7 S7
  go_wp2_with fail
  refine (eqPairS_same _ n n _ n ps w8 (unhide R8) (unhide T8) hn).mono ?_
  rintro e w9 ⟨rfl, hb9⟩
  have H9 := hide ((unhide H8).trans (hb9.mono (unhide H8).size))
  have S9 := hide ((unhide S8).mono hb9)
  clear hb9 H8 R8 T8 S8
  go_wp2_with fail
  refine (toIntS_any a' n' c' l _ ((unhide HR').mono (unhide H9)) hn').mono ?_
  rintro e w10 ⟨rfl, ho10, hb10⟩
  have H10 := hide ((unhide H9).trans (hb10.mono (unhide H9).size))
  have S10 := hide ((unhide S9).mono hb10)
  have T10 := hide (Rd.of_owns ho10)
  clear ho10 hb10 H9 S9
  go_wp2_with fail
  refine (eqIntS_same _ n' n' _ n' l w10 (unhide S10) (unhide T10) hn').mono ?_
  rintro e w11 ⟨rfl, hb11⟩
  have H11 := hide ((unhide H10).trans (hb11.mono (unhide H10).size))
  clear hb11 H10 S10 T10
  go_wp2_with fail
  go_ret
  exact ⟨rfl, unhide H11⟩
end Go.Proofs.Ytmjohalblppgiaa
