/- The program's Digits at every int, where the library's table of powers lies as it is laid. -/
import Derived.Test.YtbdpnmlhabliaaaDoorRows
import Derived.Test.YtbdpnmlhabliaaaDoorShelf
import Derived.Test.YtbdpnmlhabliaaaDoorDigits
import Derived.WalkKit
import Derived.ProofKit
import Derived.LaidMore
import Derived.Lib.LaidTab
import Derived.Lib.AppendIntMem
import Derived.Stop.Joined
import Derived.Stop.LaidErr
namespace Go.Proofs.YtbdpnmlhabliaaaDoor
open Go.ChangeShapes Go.WideShapes Go.ChangeAt Go.RowKit

theorem own : ownKnob Tryd.prog.godebug = none := by kernel_rfl
theorem gPow : Tryd.prog.globalNamed "internal/strconv.uint64pow10" = some 2 := by kernel_rfl
theorem gPowType : (Tryd.prog.globals[2]?).map (·.type) = some 160 := by kernel_rfl
theorem cellsRow : Tryd.prog.cellsOf 160 = 20 := by kernel_rfl
theorem cellsOne : Tryd.prog.cellsOf 154 = 1 := by kernel_rfl
theorem datum : (Rows.laid_internal_strconv_uint64pow10 : DataW Unit) = Lib.tabData .u64 Lib.pow10Tab := by kernel_rfl

theorem implDigits_any (n : Int) (w : World) (h0 : -9223372036854775808 ≤ n) (h1 : n ≤ 9223372036854775807) (htab : Lib.TabIs Tryd.prog w "internal/strconv.uint64pow10" .u64 Lib.pow10Tab) :
    Calls Tryd.prog 78 #[.int .i64 n] w fun e w' => e = .returned (.string ⟨(Lib.itoa n).toArray⟩) ∧ Below w.heap.size w w' := by
  have ht : Hid (Lib.TabIs Tryd.prog w "internal/strconv.uint64pow10" .u64 Lib.pow10Tab) := htab
  clear htab
  go_enter Tryd.func78, Tryd.ntmps78
  go_wp2_with fail
  refine (Tryd.strconv_Itoa n h0 h1 w ht.out).mono ?_
  rintro e w1 ⟨rfl, k, os, rfl⟩
  go_wp2
  go_ret
  exact ⟨rfl, Lib.below_grow _ _ (Nat.le_refl _) _ _⟩

theorem tab_later {w w' : World} (hb : Below w.heap.size w w') (hg : 2 < w.heap.size) (h : Lib.TabIs Tryd.prog w "internal/strconv.uint64pow10" .u64 Lib.pow10Tab) : Lib.TabIs Tryd.prog w' "internal/strconv.uint64pow10" .u64 Lib.pow10Tab :=
  var?_below hb gPow hg h

theorem tab_lt {w : World} (h : Lib.TabIs Tryd.prog w "internal/strconv.uint64pow10" .u64 Lib.pow10Tab) : 2 < w.heap.size :=
  World.block_lt_of_cell? w _ (h.cell gPow 0 (by rw [Lib.pow10Tab_length]; omega))


/-- What the rows' lists give: the library's table of powers. -/
theorem table_of {W : World} {rest : List (String × DataW Unit)} (h2 : laidMet Tryd.prog (("internal/strconv.uint64pow10", Rows.laid_internal_strconv_uint64pow10) :: rest) W) : Lib.TabIs Tryd.prog W "internal/strconv.uint64pow10" .u64 Lib.pow10Tab := by
  rw [datum] at h2
  exact Lib.tabIs_of_head gPow gPowType Tryd.underlying160 Tryd.underlying154 cellsOne cellsRow h2
end Go.Proofs.YtbdpnmlhabliaaaDoor
