/- Whether a list has a thing: of the model and of the program, numbers and pairs. -/
import Derived.Test.YtlakbnpinennnaaGreatDoorTable
import Derived.Laws.StructEq
namespace Go.Proofs.YtlakbnpinennnaaGreatDoor
open Go.RowKit
set_option linter.unusedVariables false
theorem ret_bool {a b : Bool} (h : a = b) : Ending.returned (.bool a) = .returned (.bool b) := by rw [h]
theorem PairV.is_cases (x y : Int) (q : PairV) : ((q.a == x) = false ∧ PairV.is x y q = false) ∨ ((q.a == x) = true ∧ (q.b == y) = false ∧ PairV.is x y q = false) ∨ ((q.a == x) = true ∧ (q.b == y) = true ∧ PairV.is x y q = true) := by
  unfold PairV.is
  cases (q.a == x) <;> cases (q.b == y) <;> simp
theorem flip_beq (x y : Int) : (x == y) = (y == x) := by rw [Bool.eq_iff_iff, beq_iff_eq, beq_iff_eq]; exact eq_comm

set_option maxHeartbeats 800000 in
theorem specBeside_any (a : Option Addr) (n c : Nat) (ps : List PairV) (x y : Int) (w : World) (hr : RdR PairV.cells 2 w a n ps) (hn : n ≤ 1048600) :
    Calls Tryz.prog 81 #[.slice a n c, .int .i64 x, .int .i64 y] w fun e w' => e = .returned (.bool (besB ps x y)) ∧ w' = w := by
  go_enter Tryz.func81, Tryz.ntmps81
  go_wp2
  go_loop [7] (fun i => ∃ k : Nat, k ≤ n ∧ i = .int .i64 k ∧ (ps.take k).any (PairV.is x y) = false) (fun i => n - (intOf i).toNat)
  case atStart => exact ⟨0, Nat.zero_le _, rfl, rfl⟩
  case round =>
    obtain ⟨k, hk, rfl, h0⟩ := hrel
    have H0 := hide h0
    clear h0
    by_cases hlt : k < n
    · obtain ⟨b, off, rfl, hc⟩ := hr.2 k hlt
      have HS := hide (take_any_step ps (PairV.is x y) k (by rw [hr.1]; exact hlt))
      have HH := hide (any_hit ps (PairV.is x y) k (by rw [hr.1]; exact hlt))
      generalize ps.getD k default = q at hc HS HH
      have d0 : w.cell? ⟨b, off + k * 2, none⟩ = some (.int .i64 q.a) := hc 0 (by omega)
      have d1 : w.cell? ⟨b, off + k * 2 + 1, none⟩ = some (.int .i64 q.b) := hc 1 (by omega)
      clear hc hr
      rcases PairV.is_cases x y q with ⟨e1, hi⟩ | ⟨e1, e2, hi⟩ | ⟨e1, e2, hi⟩
      case inr.inr =>
        have HI := hide hi
        clear hi
        go_wp2
        go_ret
        exact ⟨ret_bool ((unhide HH) (unhide HI)).symm, rfl⟩
      all_goals
        have HI := hide hi
        clear hi
        go_wp2
        go_round
        case rel => exact ⟨k + 1, by omega, by go_num, by rw [unhide HS, unhide H0, unhide HI]; rfl⟩
        case measure => simp [intOf]; omega
    · have HE := hide (take_any_end ps (PairV.is x y) k (by rw [hr.1]; omega) (unhide H0))
      go_wp2
      go_ret
      exact ⟨ret_bool (unhide HE).symm, rfl⟩
theorem specBeside_at {a : Option Addr} {n c : Nat} {ps : List PairV} {x y : Int} {w : World} {v : Bool} (hv : besB ps x y = v) (hr : RdR PairV.cells 2 w a n ps) (hn : n ≤ 1048600) (m : Nat) :
    Calls Tryz.prog 81 #[.slice a n c, .int .i64 x, .int .i64 y] (w.drewN m) fun e w' => e = .returned (.bool v) ∧ w' = w.drewN m := by
  subst hv
  exact specBeside_any a n c ps x y (w.drewN m) (hr.mono (by omega) PairV.len (below_drewN (Below.refl _ _) _)) hn
set_option maxHeartbeats 800000 in
theorem l1Has_any (a : Option Addr) (n c : Nat) (zs : List Int) (x : Int) (w : World) (hr : Rd w a n zs) (hn : n ≤ 1048600) :
    Calls Tryz.prog 68 #[.slice a n c, .int .i64 x] w fun e w' => e = .returned (.bool (hasI zs x)) ∧ w' = w := by
  go_enter Tryz.func68, Tryz.ntmps68
  go_wp2
  go_loop [5] (fun i => ∃ k : Nat, k ≤ n ∧ i = .int .i64 k ∧ (zs.take k).any (fun y => y == x) = false) (fun i => n - (intOf i).toNat)
  case atStart => exact ⟨0, Nat.zero_le _, rfl, rfl⟩
  case round =>
    obtain ⟨k, hk, rfl, h0⟩ := hrel
    have H0 := hide h0
    clear h0
    by_cases hlt : k < n
    · obtain ⟨b, off, rfl, hc⟩ := hr.2 k hlt
      have HS := hide (take_any_step zs (fun y => y == x) k (by rw [hr.1]; exact hlt))
      have HH := hide (any_hit zs (fun y => y == x) k (by rw [hr.1]; exact hlt))
      rw [show zs.getD k 0 = zs.getD k default from rfl] at hc
      generalize zs.getD k default = q at hc HS HH
      clear hr
      cases e1 : (q == x)
      · go_wp2
        go_round
        case rel => exact ⟨k + 1, by omega, by go_num, by rw [unhide HS, unhide H0, e1]; rfl⟩
        case measure => simp [intOf]; omega
      · go_wp2
        go_ret
        exact ⟨ret_bool ((unhide HH) e1).symm, rfl⟩
    · have HE := hide (take_any_end zs (fun y => y == x) k (by rw [hr.1]; omega) (unhide H0))
      go_wp2
      go_ret
      exact ⟨ret_bool (unhide HE).symm, rfl⟩
set_option maxHeartbeats 800000 in
theorem indexInt_any (a : Option Addr) (n c : Nat) (zs : List Int) (x : Int) (w : World) (hr : Rd w a n zs) (hn : n ≤ 1048600) :
    Calls Tryz.prog 76 #[.slice a n c, .int .i64 x] w fun e w' => ∃ r : Int, e = .returned (.int .i64 r) ∧ decide (0 ≤ r) = hasI zs x ∧ w' = w := by
  go_enter Tryz.func76, Tryz.ntmps76
  go_wp2
  go_loop [8] (fun i => ∃ k : Nat, k ≤ n ∧ i = .int .i64 k ∧ (zs.take k).any (fun y => y == x) = false) (fun i => n - (intOf i).toNat)
  case atStart => exact ⟨0, Nat.zero_le _, rfl, rfl⟩
  case round =>
    obtain ⟨k, hk, rfl, h0⟩ := hrel
    have H0 := hide h0
    clear h0
    by_cases hlt : k < n
    · obtain ⟨b, off, rfl, hc⟩ := hr.2 k hlt
      have HS := hide (take_any_step zs (fun y => y == x) k (by rw [hr.1]; exact hlt))
      have HH := hide (any_hit zs (fun y => y == x) k (by rw [hr.1]; exact hlt))
      rw [show zs.getD k 0 = zs.getD k default from rfl] at hc
      generalize zs.getD k default = q at hc HS HH
      clear hr
      cases e1 : (x == q)
      · have HF : Hid ((q == x) = false) := (flip_beq q x).trans e1
        go_wp2
        go_round
        case rel => exact ⟨k + 1, by omega, by go_num, by rw [unhide HS, unhide H0, unhide HF]; rfl⟩
        case measure => simp [intOf]; omega
      · have HF : Hid ((q == x) = true) := (flip_beq q x).trans e1
        go_wp2
        go_ret
        exact ⟨k, rfl, (decide_eq_true (by omega)).trans ((unhide HH) (unhide HF)).symm, rfl⟩
    · have HE := hide (take_any_end zs (fun y => y == x) k (by rw [hr.1]; omega) (unhide H0))
      go_wp2
      go_ret
      exact ⟨-1, rfl, (unhide HE).symm, rfl⟩
theorem containsInt_any (a : Option Addr) (n c : Nat) (zs : List Int) (x : Int) (w : World) (hr : Rd w a n zs) (hn : n ≤ 1048600) :
    Calls Tryz.prog 42 #[.slice a n c, .int .i64 x] w fun e w' => e = .returned (.bool (hasI zs x)) ∧ w' = w := by
  go_enter Tryz.func42, Tryz.ntmps42
  go_wp2_with fail
  refine (indexInt_any a n c zs x w hr hn).mono ?_
  rintro e w' ⟨r, rfl, hd, rfl⟩
  have HD := hide hd
  clear hd
  go_wp2
  go_ret
  exact ⟨ret_bool (unhide HD), rfl⟩
set_option maxHeartbeats 1600000 in
theorem indexPair_any (a : Option Addr) (n c : Nat) (ps : List PairV) (x y : Int) (w : World) (hr : RdR PairV.cells 2 w a n ps) (hn : n ≤ 1048600) :
    Calls Tryz.prog 155 #[.slice a n c, .agg #[.int .i64 x, .int .i64 y]] w fun e w' => ∃ r : Int, e = .returned (.int .i64 r) ∧ decide (0 ≤ r) = besB ps x y ∧ Below w.heap.size w w' := by
  go_enter Tryz.func155, Tryz.ntmps155
  go_wp2
  go_loopw [8] (fun i wr => ∃ k : Nat, k ≤ n ∧ i = .int .i64 k ∧ (ps.take k).any (PairV.is x y) = false ∧ Below w.heap.size w wr ∧ Blk wr w.heap.size [.int .i64 x, .int .i64 y]) (fun i _ => n - (intOf i).toNat)
  case atStart => exact ⟨0, Nat.zero_le _, rfl, rfl, (Below.refl _ _).alloc (Nat.le_refl _) _, Blk.allocAt _ rfl⟩
  case round =>
    obtain ⟨k, hk, rfl, h0, hbel, hblk⟩ := hrel
    have H0 := hide h0
    have HB := hide hbel
    have HK := hide hblk
    clear h0
    by_cases hlt : k < n
    · obtain ⟨b, off, rfl, hc⟩ := hr.2 k hlt
      have HS := hide (take_any_step ps (PairV.is x y) k (by rw [hr.1]; exact hlt))
      have HH := hide (any_hit ps (PairV.is x y) k (by rw [hr.1]; exact hlt))
      generalize ps.getD k default = q at hc HS HH
      have d0 : wr.cell? ⟨b, off + k * 2, none⟩ = some (.int .i64 q.a) := (hbel.cell (World.block_lt_of_cell? w _ (hc 0 (by omega)))).trans (hc 0 (by omega))
      have d1 : wr.cell? ⟨b, off + k * 2 + 1, none⟩ = some (.int .i64 q.b) := (hbel.cell (World.block_lt_of_cell? w _ (hc 1 (by omega)))).trans (hc 1 (by omega))
      have b0 : wr.cell? ⟨w.heap.size, 0, none⟩ = some (.int .i64 x) := (hblk 0 (by simp)).1
      have b1 : wr.cell? ⟨w.heap.size, 1, none⟩ = some (.int .i64 y) := (hblk 1 (by simp)).1
      clear hc hr hbel hblk
      rcases PairV.is_cases x y q with ⟨e1, hi⟩ | ⟨e1, e2, hi⟩ | ⟨e1, e2, hi⟩
      case inr.inr =>
        have HI := hide hi
        clear hi
        rw [flip_beq] at e1 e2
        go_wp2
        go_quiet (fail)
        go_wp2
        go_ret
        exact ⟨k, rfl, (decide_eq_true (by omega)).trans ((unhide HH) (unhide HI)).symm, below_drewN (unhide HB) _⟩
      case inl =>
        have HI := hide hi
        clear hi
        rw [flip_beq] at e1
        go_wp2
        go_quiet (fail)
        go_wp2
        go_roundw
        case rel => exact ⟨k + 1, by omega, by go_num, by rw [unhide HS, unhide H0, unhide HI]; rfl, below_drewN (unhide HB) _, unhide HK⟩
        case measure => simp [intOf]; omega
      case inr.inl =>
        have HI := hide hi
        clear hi
        rw [flip_beq] at e1 e2
        go_wp2
        go_quiet (fail)
        go_wp2
        go_roundw
        case rel => exact ⟨k + 1, by omega, by go_num, by rw [unhide HS, unhide H0, unhide HI]; rfl, below_drewN (unhide HB) _, unhide HK⟩
        case measure => simp [intOf]; omega
    · have HE := hide (take_any_end ps (PairV.is x y) k (by rw [hr.1]; omega) (unhide H0))
      go_wp2
      go_ret
      exact ⟨-1, rfl, (unhide HE).symm, unhide HB⟩
theorem containsPair_any (a : Option Addr) (n c : Nat) (ps : List PairV) (x y : Int) (w : World) (hr : RdR PairV.cells 2 w a n ps) (hn : n ≤ 1048600) :
    Calls Tryz.prog 154 #[.slice a n c, .agg #[.int .i64 x, .int .i64 y]] w fun e w' => e = .returned (.bool (besB ps x y)) ∧ Below w.heap.size w w' := by
  go_enter Tryz.func154, Tryz.ntmps154
  go_wp2_with fail
  refine (indexPair_any a n c ps x y _ (hr.mono (by omega) PairV.len ((Below.refl _ _).alloc (Nat.le_refl _) _)) hn).mono ?_
  rintro e w' ⟨r, rfl, hd, hb⟩
  have HD := hide hd
  have HB : Hid (Below w.heap.size w w') := ((Below.refl _ _).alloc (Nat.le_refl _) _).trans (hb.mono (by simp))
  clear hd hb
  go_wp2
  go_ret
  exact ⟨ret_bool (unhide HD), unhide HB⟩
theorem beside_any (a : Option Addr) (n c : Nat) (ps : List PairV) (x y : Int) (w : World) (hr : RdR PairV.cells 2 w a n ps) (hn : n ≤ 1048600) :
    Calls Tryz.prog 145 #[.slice a n c, .int .i64 x, .int .i64 y] w fun e w' => e = .returned (.bool (besB ps x y)) ∧ Below w.heap.size w w' := by
  go_enter Tryz.func145, Tryz.ntmps145
  go_wp2_with fail
  refine (containsPair_any a n c ps x y _ hr hn).mono ?_
  rintro e w' ⟨rfl, hb⟩
  have HB := hide hb
  clear hb
  go_wp2
  go_ret
  exact ⟨rfl, unhide HB⟩
end Go.Proofs.YtlakbnpinennnaaGreatDoor
