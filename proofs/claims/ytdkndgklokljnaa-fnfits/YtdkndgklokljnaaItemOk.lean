/- ItemOk, TypeOk, PalletOk of the program and of the model: each answers as the bounds say. -/
import Derived.Test.YtdkndgklokljnaaVol
namespace Go.Proofs.Ytdkndgklokljnaa
open Go.RowKit

def sidesB (a b c : Int) : Bool := inB a 1 2000 && inB b 1 2000 && inB c 1 2000
def itemB (id x y z g c n : Int) : Bool := inB id 0 999 && sidesB x y z && inB g 1 100000 && inB c 0 3 && inB n 1 6
def typeB (id x y z t g c : Int) : Bool := inB id 0 999 && sidesB x y z && inB t 0 100000 && inB g 1 100000 && inB c 0 100000
def palletB (x z y g : Int) : Bool := sidesB x y z && inB g 1 100000


/-! The model's. -/
theorem l2Side_any (n : Int) (w : World) :
    Calls Try.prog 27 #[.int .i64 n] w fun e w' => e = .returned (.bool (inB n 1 2000)) ∧ w' = w := by
  go_enter Try.func27, Try.ntmps27
  go_wp2_with ((go_at_call 28; refine (l1In_any _ _ _ _).mono ?_; rintro e w' ⟨rfl, rfl⟩))
  go_ret
  exact ⟨rfl, rfl⟩
theorem l2Id_any (n : Int) (w : World) :
    Calls Try.prog 26 #[.int .i64 n] w fun e w' => e = .returned (.bool (inB n 0 999)) ∧ w' = w := by
  go_enter Try.func26, Try.ntmps26
  go_wp2_with ((go_at_call 28; refine (l1In_any _ _ _ _).mono ?_; rintro e w' ⟨rfl, rfl⟩))
  go_ret
  exact ⟨rfl, rfl⟩
theorem specItemOk_any (id x y z g c n : Int) (w : World) :
    Calls Try.prog 10 #[.agg #[.int .i64 id, .int .i64 x, .int .i64 y, .int .i64 z, .int .i64 g, .int .i64 c, .int .i64 n]] w fun e w' => e = .returned (.bool (itemB id x y z g c n)) ∧ Below w.heap.size w w' := by
  unfold itemB sidesB
  cases h1 : inB id 0 999
  case' true =>
    cases h2 : inB x 1 2000
    case' true =>
      cases h3 : inB y 1 2000
      case' true =>
        cases h4 : inB z 1 2000
        case' true =>
          cases h5 : inB g 1 100000
          case' true =>
            cases h6 : inB c 0 3
            case' true =>
              cases h7 : inB n 1 6
  all_goals
    go_enter Try.func10, Try.ntmps10
    go_wp2_with (first | (go_at_call 28; refine (l1In_any _ _ _ _).mono ?_; rintro e w' ⟨rfl, rfl⟩) | (go_at_call 26; refine (l2Id_any _ _).mono ?_; rintro e w' ⟨rfl, rfl⟩) | (go_at_call 27; refine (l2Side_any _ _).mono ?_; rintro e w' ⟨rfl, rfl⟩))
    go_ret
    exact ⟨rfl, (Below.refl _ _).alloc (Nat.le_refl _) _⟩
theorem specTypeOk_any (id x y z g c n : Int) (w : World) :
    Calls Try.prog 11 #[.agg #[.int .i64 id, .int .i64 x, .int .i64 y, .int .i64 z, .int .i64 g, .int .i64 c, .int .i64 n]] w fun e w' => e = .returned (.bool (typeB id x y z g c n)) ∧ Below w.heap.size w w' := by
  unfold typeB sidesB
  cases h1 : inB id 0 999
  case' true =>
    cases h2 : inB x 1 2000
    case' true =>
      cases h3 : inB y 1 2000
      case' true =>
        cases h4 : inB z 1 2000
        case' true =>
          cases h5 : inB g 0 100000
          case' true =>
            cases h6 : inB c 1 100000
            case' true =>
              cases h7 : inB n 0 100000
  all_goals
    go_enter Try.func11, Try.ntmps11
    go_wp2_with (first | (go_at_call 28; refine (l1In_any _ _ _ _).mono ?_; rintro e w' ⟨rfl, rfl⟩) | (go_at_call 26; refine (l2Id_any _ _).mono ?_; rintro e w' ⟨rfl, rfl⟩) | (go_at_call 27; refine (l2Side_any _ _).mono ?_; rintro e w' ⟨rfl, rfl⟩))
    go_ret
    exact ⟨rfl, (Below.refl _ _).alloc (Nat.le_refl _) _⟩
end Go.Proofs.Ytdkndgklokljnaa
