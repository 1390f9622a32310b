/- ItemOk, TypeOk, PalletOk of the program and of the model: each answers as the bounds say. -/
import Derived.Test.YtlakbnpinennnaaGreatDoorVol
namespace Go.Proofs.YtlakbnpinennnaaGreatDoor
open Go.RowKit

def sidesB (a b c : Int) : Bool := inB a 1 2000 && inB b 1 2000 && inB c 1 2000
def itemB (id x y z g c n : Int) : Bool := inB id 0 999 && sidesB x y z && inB g 1 100000 && inB c 0 3 && inB n 1 6
def typeB (id x y z t g c : Int) : Bool := inB id 0 999 && sidesB x y z && inB t 0 100000 && inB g 1 100000 && inB c 0 100000
def palletB (x z y g : Int) : Bool := sidesB x y z && inB g 1 100000

theorem sidesOk_any (a b c : Int) (w : World) :
    Calls Tryz.prog 150 #[.int .i64 a, .int .i64 b, .int .i64 c] w fun e w' => e = .returned (.bool (sidesB a b c)) ∧ w' = w := by
  unfold sidesB
  cases h1 : inB a 1 2000 <;> cases h2 : inB b 1 2000 <;> cases h3 : inB c 1 2000 <;>
    (go_enter Tryz.func150, Tryz.ntmps150
     go_wp2_with ((go_at_call 41; refine (within_any _ _ _ _).mono ?_; rintro e w' ⟨rfl, rfl⟩))
     go_ret
     exact ⟨rfl, rfl⟩)
theorem itemOk_any (id x y z g c n : Int) (w : World) :
    Calls Tryz.prog 152 #[.agg #[.int .i64 id, .int .i64 x, .int .i64 y, .int .i64 z, .int .i64 g, .int .i64 c, .int .i64 n]] w fun e w' => e = .returned (.bool (itemB id x y z g c n)) ∧ Below w.heap.size w w' := by
  unfold itemB
  cases h1 : inB id 0 999
  case' true =>
    cases h2 : sidesB x y z
    case' true =>
      cases h3 : inB g 1 100000
      case' true =>
        cases h4 : inB c 0 3
        case' true =>
          cases h5 : inB n 1 6
  all_goals
    go_enter Tryz.func152, Tryz.ntmps152
    go_wp2_with (first | (go_at_call 41; refine (within_any _ _ _ _).mono ?_; rintro e w' ⟨rfl, rfl⟩) | (go_at_call 150; refine (sidesOk_any _ _ _ _).mono ?_; rintro e w' ⟨rfl, rfl⟩))
    go_ret
    exact ⟨rfl, (Below.refl _ _).alloc (Nat.le_refl _) _⟩
theorem typeOk_any (id x y z g c n : Int) (w : World) :
    Calls Tryz.prog 151 #[.agg #[.int .i64 id, .int .i64 x, .int .i64 y, .int .i64 z, .int .i64 g, .int .i64 c, .int .i64 n]] w fun e w' => e = .returned (.bool (typeB id x y z g c n)) ∧ Below w.heap.size w w' := by
  unfold typeB
  cases h1 : inB id 0 999
  case' true =>
    cases h2 : sidesB x y z
    case' true =>
      cases h3 : inB g 0 100000
      case' true =>
        cases h4 : inB c 1 100000
        case' true =>
          cases h5 : inB n 0 100000
  all_goals
    go_enter Tryz.func151, Tryz.ntmps151
    go_wp2_with (first | (go_at_call 41; refine (within_any _ _ _ _).mono ?_; rintro e w' ⟨rfl, rfl⟩) | (go_at_call 150; refine (sidesOk_any _ _ _ _).mono ?_; rintro e w' ⟨rfl, rfl⟩))
    go_ret
    exact ⟨rfl, (Below.refl _ _).alloc (Nat.le_refl _) _⟩
theorem palletOk_any (x z y g : Int) (w : World) :
    Calls Tryz.prog 131 #[.agg #[.int .i64 x, .int .i64 z, .int .i64 y, .int .i64 g]] w fun e w' => e = .returned (.bool (palletB x z y g)) ∧ Below w.heap.size w w' := by
  unfold palletB
  cases h2 : sidesB x y z <;> cases h3 : inB g 1 100000
  all_goals
    go_enter Tryz.func131, Tryz.ntmps131
    go_wp2_with (first | (go_at_call 41; refine (within_any _ _ _ _).mono ?_; rintro e w' ⟨rfl, rfl⟩) | (go_at_call 150; refine (sidesOk_any _ _ _ _).mono ?_; rintro e w' ⟨rfl, rfl⟩))
    go_ret
    exact ⟨rfl, (Below.refl _ _).alloc (Nat.le_refl _) _⟩

/-! The model's. -/
theorem l2Side_any (n : Int) (w : World) :
    Calls Tryz.prog 98 #[.int .i64 n] w fun e w' => e = .returned (.bool (inB n 1 2000)) ∧ w' = w := by
  go_enter Tryz.func98, Tryz.ntmps98
  go_wp2_with ((go_at_call 67; refine (l1In_any _ _ _ _).mono ?_; rintro e w' ⟨rfl, rfl⟩))
  go_ret
  exact ⟨rfl, rfl⟩
theorem l2Id_any (n : Int) (w : World) :
    Calls Tryz.prog 78 #[.int .i64 n] w fun e w' => e = .returned (.bool (inB n 0 999)) ∧ w' = w := by
  go_enter Tryz.func78, Tryz.ntmps78
  go_wp2_with ((go_at_call 67; refine (l1In_any _ _ _ _).mono ?_; rintro e w' ⟨rfl, rfl⟩))
  go_ret
  exact ⟨rfl, rfl⟩
theorem specItemOk_any (id x y z g c n : Int) (w : World) :
    Calls Tryz.prog 80 #[.agg #[.int .i64 id, .int .i64 x, .int .i64 y, .int .i64 z, .int .i64 g, .int .i64 c, .int .i64 n]] w fun e w' => e = .returned (.bool (itemB id x y z g c n)) ∧ Below w.heap.size w w' := by
  unfold itemB sidesB
  cases h1 : inB id 0 999
  case' true =>
    cases h2 : inB x 1 2000
    case' true =>
      cases h3 : inB y 1 2000
      case' true =>
        cases h4 : inB z 1 2000
        case' true =>
          cases h5 : inB g 1 100000
          case' true =>
            cases h6 : inB c 0 3
            case' true =>
              cases h7 : inB n 1 6
  all_goals
    go_enter Tryz.func80, Tryz.ntmps80
    go_wp2_with (first | (go_at_call 67; refine (l1In_any _ _ _ _).mono ?_; rintro e w' ⟨rfl, rfl⟩) | (go_at_call 78; refine (l2Id_any _ _).mono ?_; rintro e w' ⟨rfl, rfl⟩) | (go_at_call 98; refine (l2Side_any _ _).mono ?_; rintro e w' ⟨rfl, rfl⟩))
    go_ret
    exact ⟨rfl, (Below.refl _ _).alloc (Nat.le_refl _) _⟩
theorem specTypeOk_any (id x y z g c n : Int) (w : World) :
    Calls Tryz.prog 79 #[.agg #[.int .i64 id, .int .i64 x, .int .i64 y, .int .i64 z, .int .i64 g, .int .i64 c, .int .i64 n]] w fun e w' => e = .returned (.bool (typeB id x y z g c n)) ∧ Below w.heap.size w w' := by
  unfold typeB sidesB
  cases h1 : inB id 0 999
  case' true =>
    cases h2 : inB x 1 2000
    case' true =>
      cases h3 : inB y 1 2000
      case' true =>
        cases h4 : inB z 1 2000
        case' true =>
          cases h5 : inB g 0 100000
          case' true =>
            cases h6 : inB c 1 100000
            case' true =>
              cases h7 : inB n 0 100000
  all_goals
    go_enter Tryz.func79, Tryz.ntmps79
    go_wp2_with (first | (go_at_call 67; refine (l1In_any _ _ _ _).mono ?_; rintro e w' ⟨rfl, rfl⟩) | (go_at_call 78; refine (l2Id_any _ _).mono ?_; rintro e w' ⟨rfl, rfl⟩) | (go_at_call 98; refine (l2Side_any _ _).mono ?_; rintro e w' ⟨rfl, rfl⟩))
    go_ret
    exact ⟨rfl, (Below.refl _ _).alloc (Nat.le_refl _) _⟩
theorem specPalletOk_any (x z y g : Int) (w : World) :
    Calls Tryz.prog 77 #[.agg #[.int .i64 x, .int .i64 z, .int .i64 y, .int .i64 g]] w fun e w' => e = .returned (.bool (palletB x z y g)) ∧ Below w.heap.size w w' := by
  unfold palletB sidesB
  cases h1 : inB x 1 2000
  case' true =>
    cases h2 : inB z 1 2000
    case' true =>
      cases h3 : inB y 1 2000
      case' true =>
        cases h4 : inB g 1 100000
  all_goals
    go_enter Tryz.func77, Tryz.ntmps77
    go_wp2_with (first | (go_at_call 67; refine (l1In_any _ _ _ _).mono ?_; rintro e w' ⟨rfl, rfl⟩) | (go_at_call 98; refine (l2Side_any _ _).mono ?_; rintro e w' ⟨rfl, rfl⟩))
    go_ret
    exact ⟨by simp, (Below.refl _ _).alloc (Nat.le_refl _) _⟩
end Go.Proofs.YtlakbnpinennnaaGreatDoor
