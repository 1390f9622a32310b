/- Groups, of the model and of the program. -/
import Derived.Test.YtlakbnpinennnaaGreatDoorIntSS
import Derived.Test.YtlakbnpinennnaaGreatDoorBeside
import Derived.Deep.AppendLies
namespace Go.Proofs.YtlakbnpinennnaaGreatDoor
open Go.RowKit
set_option linter.unusedVariables false

set_option maxHeartbeats 1000000 in
theorem l3Joins_any (a : Option Addr) (n c : Nat) (ps : List PairV) (a' : Option Addr) (n' c' : Nat) (g : List Int) (x : Int) (w : World) (hr : RdR PairV.cells 2 w a n ps) (hr' : Rd w a' n' g) (hn : n ≤ 1048600) (hn' : n' ≤ 1048600) :
    Calls Tryz.prog 85 #[.slice a n c, .slice a' n' c', .int .i64 x] w fun e w' => e = .returned (.bool (joinsB ps g x)) ∧ w' = w := by
  have HC := hide (fun x y => specBeside_any a n c ps x y w hr hn)
  clear hr
  go_enter Tryz.func85, Tryz.ntmps85
  go_wp2
  go_loop [7] (fun i => ∃ k : Nat, k ≤ n' ∧ i = .int .i64 k ∧ (g.take k).all (fun k => besB ps k x && besB ps x k) = true) (fun i => n' - (intOf i).toNat)
  case atStart => exact ⟨0, Nat.zero_le _, rfl, rfl⟩
  case round =>
    obtain ⟨k, hk, rfl, h0⟩ := hrel
    have H0 := hide h0
    clear h0
    by_cases hlt : k < n'
    case neg =>
      have HE : Hid (joinsB ps g x = true) := take_all_end g _ k (by rw [hr'.1]; omega) (unhide H0)
      go_wp2_with fail
      go_ret
      exact ⟨ret_bool (unhide HE).symm, rfl⟩
    obtain ⟨b, off, rfl, hc⟩ := hr'.2 k hlt
    have HS := hide (take_all_step g (fun k => besB ps k x && besB ps x k) k (by rw [hr'.1]; exact hlt))
    have HM := hide (all_miss g (fun k => besB ps k x && besB ps x k) k (by rw [hr'.1]; exact hlt))
    rw [show g.getD k 0 = g.getD k default from rfl] at hc
    generalize g.getD k default = q at hc HS HM
    clear hr'
    obtain ⟨u, hx⟩ : ∃ u, besB ps q x = u := ⟨_, rfl⟩
    obtain ⟨v, hy⟩ : ∃ v, besB ps x q = v := ⟨_, rfl⟩
    cases u
    case false =>
      have HR : Hid (joinsB ps g x = false) := (unhide HM) (by rw [hx]; rfl)
      go_wp2_with (first | (go_at_call 81; refine ((unhide HC) _ _).mono ?_; rintro e w' ⟨rfl, hw⟩; subst w'; first | rw [hx] | rw [hy]) | fail)
      go_ret
      exact ⟨ret_bool (unhide HR).symm, rfl⟩
    cases v
    case false =>
      have HR : Hid (joinsB ps g x = false) := (unhide HM) (by rw [hx, hy]; rfl)
      go_wp2_with (first | (go_at_call 81; refine ((unhide HC) _ _).mono ?_; rintro e w' ⟨rfl, hw⟩; subst w'; first | rw [hx] | rw [hy]) | fail)
      go_ret
      exact ⟨ret_bool (unhide HR).symm, rfl⟩
    go_wp2_with (first | (go_at_call 81; refine ((unhide HC) _ _).mono ?_; rintro e w' ⟨rfl, hw⟩; subst w'; first | rw [hx] | rw [hy]) | fail)
    go_round
    case rel => exact ⟨k + 1, by omega, by go_num, by rw [unhide HS, unhide H0, hx, hy]; rfl⟩
    case measure => simp [intOf]; omega
theorem bothWays_any (a : Option Addr) (n c : Nat) (ps : List PairV) (x y : Int) (w : World) (hr : RdR PairV.cells 2 w a n ps) (hn : n ≤ 1048600) :
    Calls Tryz.prog 118 #[.slice a n c, .int .i64 x, .int .i64 y] w fun e w' => e = .returned (.bool (besB ps x y && besB ps y x)) ∧ Below w.heap.size w w' := by
  have HC := hide (fun W x y (hb : Below w.heap.size w W) => beside_any a n c ps x y W (hr.mono (by omega) PairV.len hb) hn)
  clear hr
  go_enter Tryz.func118, Tryz.ntmps118
  go_wp2_with fail
  refine ((unhide HC) w x y (Below.refl _ _)).mono ?_
  rintro e w1 ⟨rfl, hb1⟩
  have HB := hide hb1
  clear hb1
  obtain ⟨u, hx⟩ : ∃ u, besB ps x y = u := ⟨_, rfl⟩
  rw [hx]
  cases u
  · go_wp2_with fail
    go_ret
    exact ⟨ret_bool (by rw [hx]; rfl), unhide HB⟩
  · go_wp2_with fail
    refine ((unhide HC) w1 y x (unhide HB)).mono ?_
    rintro e w2 ⟨rfl, hb2⟩
    have HB2 := hide ((unhide HB).trans (hb2.mono (unhide HB).size))
    clear hb2
    go_wp2_with fail
    go_ret
    exact ⟨ret_bool (by rw [hx]; rfl), unhide HB2⟩
set_option maxHeartbeats 1000000 in
theorem besideAll_any (a : Option Addr) (n c : Nat) (ps : List PairV) (a' : Option Addr) (n' c' : Nat) (g : List Int) (x : Int) (w : World) (hr : RdR PairV.cells 2 w a n ps) (hr' : Rd w a' n' g) (hn : n ≤ 1048600) (hn' : n' ≤ 1048600) :
    Calls Tryz.prog 97 #[.slice a n c, .slice a' n' c', .int .i64 x] w fun e w' => e = .returned (.bool (joinsB ps g x)) ∧ Below w.heap.size w w' := by
  have HC := hide (fun W x y (hb : Below w.heap.size w W) => bothWays_any a n c ps x y W (hr.mono (by omega) PairV.len hb) hn)
  have HR' := hide hr'
  clear hr hr'
  go_enter Tryz.func97, Tryz.ntmps97
  go_wp2
  go_loopw [11] (fun i wr => ∃ k : Nat, k ≤ n' ∧ i = .int .i64 k ∧ (g.take k).all (fun k => besB ps k x && besB ps x k) = true ∧ Below w.heap.size w wr) (fun i _ => n' - (intOf i).toNat)
  case atStart => exact ⟨0, Nat.zero_le _, rfl, rfl, Below.refl _ _⟩
  case round =>
    obtain ⟨k, hk, rfl, h0, hbel⟩ := hrel
    have H0 := hide h0
    have HB := hide hbel
    clear h0
    by_cases hlt : k < n'
    case neg =>
      have HE : Hid (joinsB ps g x = true) := take_all_end g _ k (by rw [(unhide HR').1]; omega) (unhide H0)
      clear hbel
      go_wp2_with fail
      go_ret
      exact ⟨ret_bool (unhide HE).symm, unhide HB⟩
    obtain ⟨b, off, rfl, hc⟩ := ((unhide HR').mono hbel).2 k hlt
    have HS := hide (take_all_step g (fun k => besB ps k x && besB ps x k) k (by rw [(unhide HR').1]; exact hlt))
    have HM := hide (all_miss g (fun k => besB ps k x && besB ps x k) k (by rw [(unhide HR').1]; exact hlt))
    rw [show g.getD k 0 = g.getD k default from rfl] at hc
    generalize g.getD k default = q at hc HS HM
    clear hbel
    go_wp2_with fail
    refine ((unhide HC) wr x q (unhide HB)).mono ?_
    rintro e w2 ⟨rfl, hb2⟩
    have HB2 := hide ((unhide HB).trans (hb2.mono (unhide HB).size))
    clear hb2 HB
    have HCM := hide (Bool.and_comm (besB ps q x) (besB ps x q))
    obtain ⟨u, hx⟩ : ∃ u, (besB ps x q && besB ps q x) = u := ⟨_, rfl⟩
    rw [hx]
    cases u
    · have HR : Hid (joinsB ps g x = false) := (unhide HM) ((unhide HCM).trans hx)
      go_wp2_with fail
      go_ret
      exact ⟨ret_bool (unhide HR).symm, unhide HB2⟩
    · go_wp2_with fail
      go_roundw
      case rel => exact ⟨k + 1, by omega, by go_num, by rw [unhide HS, unhide H0, unhide HCM, hx]; rfl, unhide HB2⟩
      case measure => simp [intOf]; omega
end Go.Proofs.YtlakbnpinennnaaGreatDoor
