/- Whether a list has a thing: of the model and of the program, numbers and pairs. -/
import Derived.Test.YtdkndgklokljnaaGreatDoorTable
import Derived.Laws.StructEq
namespace Go.Proofs.YtdkndgklokljnaaGreatDoor
open Go.RowKit
set_option linter.unusedVariables false
theorem ret_bool {a b : Bool} (h : a = b) : Ending.returned (.bool a) = .returned (.bool b) := by rw [h]
theorem PairV.is_cases (x y : Int) (q : PairV) : ((q.a == x) = false ∧ PairV.is x y q = false) ∨ ((q.a == x) = true ∧ (q.b == y) = false ∧ PairV.is x y q = false) ∨ ((q.a == x) = true ∧ (q.b == y) = true ∧ PairV.is x y q = true) := by
  unfold PairV.is
  cases (q.a == x) <;> cases (q.b == y) <;> simp
theorem flip_beq (x y : Int) : (x == y) = (y == x) := by rw [Bool.eq_iff_iff, beq_iff_eq, beq_iff_eq]; exact eq_comm

set_option maxHeartbeats 800000 in
theorem specBeside_any (a : Option Addr) (n c : Nat) (ps : List PairV) (x y : Int) (w : World) (hr : RdR PairV.cells 2 w a n ps) (hn : n ≤ 1048600) :
    Calls Tryz.prog 70 #[.slice a n c, .int .i64 x, .int .i64 y] w fun e w' => e = .returned (.bool (besB ps x y)) ∧ w' = w := by
  go_enter Tryz.func70, Tryz.ntmps70
  go_wp2
  go_loop [7] (fun i => ∃ k : Nat, k ≤ n ∧ i = .int .i64 k ∧ (ps.take k).any (PairV.is x y) = false) (fun i => n - (intOf i).toNat)
  case atStart => exact ⟨0, Nat.zero_le _, rfl, rfl⟩
  case round =>
    obtain ⟨k, hk, rfl, h0⟩ := hrel
    have H0 := hide h0
    clear h0
    by_cases hlt : k < n
    · obtain ⟨b, off, rfl, hc⟩ := hr.2 k hlt
      have HS := hide (take_any_step ps (PairV.is x y) k (by rw [hr.1]; exact hlt))
      have HH := hide (any_hit ps (PairV.is x y) k (by rw [hr.1]; exact hlt))
      generalize ps.getD k default = q at hc HS HH
      have d0 : w.cell? ⟨b, off + k * 2, none⟩ = some (.int .i64 q.a) := hc 0 (by omega)
      have d1 : w.cell? ⟨b, off + k * 2 + 1, none⟩ = some (.int .i64 q.b) := hc 1 (by omega)
      clear hc hr
      rcases PairV.is_cases x y q with ⟨e1, hi⟩ | ⟨e1, e2, hi⟩ | ⟨e1, e2, hi⟩
      case inr.inr =>
        have HI := hide hi
        clear hi
        go_wp2
        go_ret
        exact ⟨ret_bool ((unhide HH) (unhide HI)).symm, rfl⟩
      all_goals
        have HI := hide hi
        clear hi
        go_wp2
        go_round
        case rel => exact ⟨k + 1, by omega, by go_num, by rw [unhide HS, unhide H0, unhide HI]; rfl⟩
        case measure => simp [intOf]; omega
    · have HE := hide (take_any_end ps (PairV.is x y) k (by rw [hr.1]; omega) (unhide H0))
      go_wp2
      go_ret
      exact ⟨ret_bool (unhide HE).symm, rfl⟩
theorem specBeside_at {a : Option Addr} {n c : Nat} {ps : List PairV} {x y : Int} {w : World} {v : Bool} (hv : besB ps x y = v) (hr : RdR PairV.cells 2 w a n ps) (hn : n ≤ 1048600) (m : Nat) :
    Calls Tryz.prog 70 #[.slice a n c, .int .i64 x, .int .i64 y] (w.drewN m) fun e w' => e = .returned (.bool v) ∧ w' = w.drewN m := by
  subst hv
  exact specBeside_any a n c ps x y (w.drewN m) (hr.mono (by omega) PairV.len (below_drewN (Below.refl _ _) _)) hn
set_option maxHeartbeats 800000 in
theorem indexInt_any (a : Option Addr) (n c : Nat) (zs : List Int) (x : Int) (w : World) (hr : Rd w a n zs) (hn : n ≤ 1048600) :
    Calls Tryz.prog 137 #[.slice a n c, .int .i64 x] w fun e w' => ∃ r : Int, e = .returned (.int .i64 r) ∧ decide (0 ≤ r) = hasI zs x ∧ w' = w := by
  go_enter Tryz.func137, Tryz.ntmps137
  go_wp2
  go_loop [8] (fun i => ∃ k : Nat, k ≤ n ∧ i = .int .i64 k ∧ (zs.take k).any (fun y => y == x) = false) (fun i => n - (intOf i).toNat)
  case atStart => exact ⟨0, Nat.zero_le _, rfl, rfl⟩
  case round =>
    obtain ⟨k, hk, rfl, h0⟩ := hrel
    have H0 := hide h0
    clear h0
    by_cases hlt : k < n
    · obtain ⟨b, off, rfl, hc⟩ := hr.2 k hlt
      have HS := hide (take_any_step zs (fun y => y == x) k (by rw [hr.1]; exact hlt))
      have HH := hide (any_hit zs (fun y => y == x) k (by rw [hr.1]; exact hlt))
      rw [show zs.getD k 0 = zs.getD k default from rfl] at hc
      generalize zs.getD k default = q at hc HS HH
      clear hr
      cases e1 : (x == q)
      · have HF : Hid ((q == x) = false) := (flip_beq q x).trans e1
        go_wp2
        go_round
        case rel => exact ⟨k + 1, by omega, by go_num, by rw [unhide HS, unhide H0, unhide HF]; rfl⟩
        case measure => simp [intOf]; omega
      · have HF : Hid ((q == x) = true) := (flip_beq q x).trans e1
        go_wp2
        go_ret
        exact ⟨k, rfl, (decide_eq_true (by omega)).trans ((unhide HH) (unhide HF)).symm, rfl⟩
    · have HE := hide (take_any_end zs (fun y => y == x) k (by rw [hr.1]; omega) (unhide H0))
      go_wp2
      go_ret
      exact ⟨-1, rfl, (unhide HE).symm, rfl⟩
theorem containsInt_any (a : Option Addr) (n c : Nat) (zs : List Int) (x : Int) (w : World) (hr : Rd w a n zs) (hn : n ≤ 1048600) :
    Calls Tryz.prog 113 #[.slice a n c, .int .i64 x] w fun e w' => e = .returned (.bool (hasI zs x)) ∧ w' = w := by
  go_enter Tryz.func113, Tryz.ntmps113
  go_wp2_with fail
  refine (indexInt_any a n c zs x w hr hn).mono ?_
  rintro e w' ⟨r, rfl, hd, rfl⟩
  have HD := hide hd
  clear hd
  go_wp2
  go_ret
  exact ⟨ret_bool (unhide HD), rfl⟩
end Go.Proofs.YtdkndgklokljnaaGreatDoor
