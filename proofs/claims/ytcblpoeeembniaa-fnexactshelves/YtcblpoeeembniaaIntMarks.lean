/- The laws' marks over a slice of numbers: what is marked, and that it is held. -/
import Derived.Test.YtcblpoeeembniaaRd
namespace Go.Proofs.Ytcblpoeeembniaa
open Go.RowKit

def marksI (k0 n : Nat) : List Int := (List.range n).map fun (i : Nat) => ((k0 + i : Nat) : Int)
theorem marksI_at (k0 n i : Nat) (h : i < n) : (marksI k0 n).getD i 0 = ((k0 + i : Nat) : Int) := by simp [marksI, h]
theorem marksI_step (k0 k n : Nat) (xs : List Value) (hl : xs.length = n) (h : k < n) :
 (((marksI k0 k).map (Value.int .i64)) ++ xs.drop k).set k (.int .i64 ((k0 + k : Nat) : Int)) = ((marksI k0 (k + 1)).map (Value.int .i64)) ++ xs.drop (k + 1) := by
 have hlen : ((marksI k0 k).map (Value.int .i64)).length = k := by simp [marksI]
 rw [List.set_append_right _ _ (by omega), hlen, Nat.sub_self]
 have e : xs.drop k = xs[k] :: xs.drop (k + 1) := List.drop_eq_getElem_cons (by omega)
 rw [e, List.set_cons_zero]
 simp [marksI, List.range_succ]
theorem marksI_cell (k0 k n : Nat) (xs : List Value) (hl : xs.length = n) (h : k < n) :
 (((marksI k0 k).map (Value.int .i64)) ++ xs.drop k)[k]? = some xs[k] := by
 have hlen : ((marksI k0 k).map (Value.int .i64)).length = k := by simp [marksI]
 rw [List.getElem?_append_right (by omega), hlen, Nat.sub_self, List.getElem?_drop]
 simp [hl, h]

set_option maxHeartbeats 800000 in
theorem markIntS_any (base g n cap k0 : Nat) (zs : List Int) (w : World) (hown : w.ownsRow base 3 1 (.slice (some ⟨g, 0, none⟩) n cap) n (zs.map (Value.int .i64))) (hn : n ≤ 1048577) (hk1 : k0 ≤ 100000000) :
 Calls Try.prog 47 #[.slice (some ⟨g, 0, none⟩) n cap, .int .i64 (k0 : Int)] w fun e w' => e = .returned (.int .i64 ((k0 + n : Nat) : Int)) ∧
  w'.ownsRow base 3 1 (.slice (some ⟨g, 0, none⟩) n cap) n ((marksI k0 n).map (Value.int .i64)) ∧ w.grownBy w' (some g) := by
 have hl : zs.length = n := by have := hown.1; simpa using this
 go_enter Try.func47, Try.ntmps47
 go_wp2
 go_loopw [1, 5] (fun t i wr => ∃ k : Nat, k ≤ n ∧ i = .int .i64 (k : Int) ∧ t = .int .i64 ((k0 : Int) + k) ∧ wr.ownsRow base 3 1 (.slice (some ⟨g, 0, none⟩) n cap) n ((marksI k0 k).map (Value.int .i64) ++ (zs.map (Value.int .i64)).drop k) ∧ w.grownBy wr (some g)) (fun _ i _ => n - (intOf i).toNat)
 case atStart => exact ⟨0, Nat.zero_le _, rfl, by go_num, by simpa [marksI] using hown, World.grownBy.refl _ _⟩
 case round =>
  obtain ⟨k, hk, rfl, rfl, how, hgb⟩ := hrel
  by_cases hlt : k < n
  · obtain ⟨v0, hc2⟩ : ∃ v, wr.cell? ⟨g, k, none⟩ = some (.int .i64 v) := by
     refine ⟨zs[k], (how.cellAt k (by omega)).trans ?_⟩
     rw [marksI_cell k0 k n _ (by simpa using hl) hlt]
     simp
    have hf2 : wr.frozen? ⟨g, k, none⟩ = false := how.frozenAt k
    have hst := (how.stored k (.int .i64 ((k0 + k : Nat) : Int))).1
    rw [marksI_step k0 k n _ (by simpa using hl) hlt] at hst
    have hgs := gb_set hgb k (.int .i64 ((k0 + k : Nat) : Int))
    have hE : ((k0 + k : Nat) : Int) = (k0 : Int) + k := by omega
    rw [hE] at hst hgs
    have HST := hide hst
    have HGS := hide hgs
    clear how hgb hst hgs hE
    go_wp2
    go_roundw
    case rel => exact ⟨k + 1, by omega, by go_num, by go_num, HST.out, HGS.out⟩
    case measure => simp [intOf]; omega
  · have hkn : k = n := by omega
    subst hkn
    go_wp2
    go_ret
    refine ⟨ret_num (by omega), ?_, hgb⟩
    rw [List.drop_of_length_le (by simp; omega), List.append_nil] at how
    exact how

set_option maxHeartbeats 800000 in
theorem heldIntS_any (a : Option Addr) (n cap k0 : Nat) (w : World) (hr : Rd w a n (marksI k0 n)) (hn : n ≤ 1048577) (hk1 : k0 ≤ 100000000) :
 Calls Try.prog 48 #[.slice a n cap, .int .i64 (k0 : Int)] w fun e w' => e = .returned (.int .i64 ((k0 + n : Nat) : Int)) ∧ w' = w := by
 go_enter Try.func48, Try.ntmps48
 go_wp2
 go_loop [1, 5] (fun t i => ∃ k : Nat, k ≤ n ∧ i = .int .i64 (k : Int) ∧ t = .int .i64 ((k0 : Int) + k)) (fun _ i => n - (intOf i).toNat)
 case atStart => exact ⟨0, Nat.zero_le _, rfl, by go_num⟩
 case round =>
  obtain ⟨k, hk, rfl, rfl⟩ := hrel
  by_cases hlt : k < n
  · obtain ⟨b, off, rfl, hc⟩ := hr.2 k hlt
    rw [marksI_at k0 n k hlt] at hc
    have hE : ((k0 + k : Nat) : Int) = (k0 : Int) + k := by omega
    rw [hE] at hc
    have hne : (((k0 : Int) + k) != ((k0 : Int) + k)) = false := by simp
    clear hE
    go_wp2
    go_round
    case rel => exact ⟨k + 1, by omega, by go_num, by go_num⟩
    case measure => simp [intOf]; omega
  · have hkn : k = n := by omega
    subst hkn
    go_wp2
    go_ret
    exact ⟨ret_num (by omega), rfl⟩
end Go.Proofs.Ytcblpoeeembniaa
