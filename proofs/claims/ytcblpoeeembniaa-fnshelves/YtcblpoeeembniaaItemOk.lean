/- ItemOk, TypeOk, PalletOk of the program and of the model: each answers as the bounds say. -/
import Derived.Test.YtcblpoeeembniaaVol
namespace Go.Proofs.Ytcblpoeeembniaa
open Go.RowKit

def sidesB (a b c : Int) : Bool := inB a 1 2000 && inB b 1 2000 && inB c 1 2000
def itemB (id x y z g c n : Int) : Bool := inB id 0 999 && sidesB x y z && inB g 1 100000 && inB c 0 3 && inB n 1 6
def typeB (id x y z t g c : Int) : Bool := inB id 0 999 && sidesB x y z && inB t 0 100000 && inB g 1 100000 && inB c 0 100000
def palletB (x z y g : Int) : Bool := sidesB x y z && inB g 1 100000

theorem sidesOk_any (a b c : Int) (w : World) :
 Calls Try.prog 53 #[.int .i64 a, .int .i64 b, .int .i64 c] w fun e w' => e = .returned (.bool (sidesB a b c)) ∧ w' = w := by
 unfold sidesB
 cases h1 : inB a 1 2000 <;> cases h2 : inB b 1 2000 <;> cases h3 : inB c 1 2000 <;>
  (go_enter Try.func53, Try.ntmps53
   go_wp2_with ((go_at_call 52; refine (within_any _ _ _ _).mono ?_; rintro e w' ⟨rfl, rfl⟩))
   go_ret
   exact ⟨rfl, rfl⟩)
theorem palletOk_any (x z y g : Int) (w : World) :
 Calls Try.prog 34 #[.agg #[.int .i64 x, .int .i64 z, .int .i64 y, .int .i64 g]] w fun e w' => e = .returned (.bool (palletB x z y g)) ∧ Below w.heap.size w w' := by
 unfold palletB
 cases h2 : sidesB x y z <;> cases h3 : inB g 1 100000
 all_goals
  go_enter Try.func34, Try.ntmps34
  go_wp2_with (first | (go_at_call 52; refine (within_any _ _ _ _).mono ?_; rintro e w' ⟨rfl, rfl⟩) | (go_at_call 53; refine (sidesOk_any _ _ _ _).mono ?_; rintro e w' ⟨rfl, rfl⟩))
  go_ret
  exact ⟨rfl, (Below.refl _ _).alloc (Nat.le_refl _) _⟩

/-! The model's. -/
theorem l2Side_any (n : Int) (w : World) :
 Calls Try.prog 51 #[.int .i64 n] w fun e w' => e = .returned (.bool (inB n 1 2000)) ∧ w' = w := by
 go_enter Try.func51, Try.ntmps51
 go_wp2_with ((go_at_call 31; refine (l1In_any _ _ _ _).mono ?_; rintro e w' ⟨rfl, rfl⟩))
 go_ret
 exact ⟨rfl, rfl⟩
theorem specPalletOk_any (x z y g : Int) (w : World) :
 Calls Try.prog 30 #[.agg #[.int .i64 x, .int .i64 z, .int .i64 y, .int .i64 g]] w fun e w' => e = .returned (.bool (palletB x z y g)) ∧ Below w.heap.size w w' := by
 unfold palletB sidesB
 cases h1 : inB x 1 2000
 case' true =>
  cases h2 : inB z 1 2000
  case' true =>
   cases h3 : inB y 1 2000
   case' true =>
    cases h4 : inB g 1 100000
 all_goals
  go_enter Try.func30, Try.ntmps30
  go_wp2_with (first | (go_at_call 31; refine (l1In_any _ _ _ _).mono ?_; rintro e w' ⟨rfl, rfl⟩) | (go_at_call 51; refine (l2Side_any _ _).mono ?_; rintro e w' ⟨rfl, rfl⟩))
  go_ret
  exact ⟨by simp, (Below.refl _ _).alloc (Nat.le_refl _) _⟩
end Go.Proofs.Ytcblpoeeembniaa
