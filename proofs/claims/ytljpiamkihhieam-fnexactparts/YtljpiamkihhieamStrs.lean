/- What a slice of texts reads as; the laws' own helpers over such slices. -/
import Derived.Test.YtljpiamkihhieamRows
import Derived.WalkKit
import Derived.ProofKit
import Derived.Below
import Derived.Deep.QuietTactic
import Derived.BigQuiet
import Derived.WalkLawsBesides
import Derived.WalkSpells
import Derived.Deep.RegionHeld3
import Derived.Lib.ItoaNum
namespace Go.Proofs.Ytljpiamkihhieam
open Go.RowKit

theorem hide {p : Prop} (h : p) : Hid p := h
theorem unhide {p : Prop} (h : Hid p) : p := h

/-- The slice at 'a' of length 'n' holds the texts 'ss'. -/
def RdS (w : World) (a : Option Addr) (n : Nat) (ss : List ByteArray) : Prop :=
  ss.length = n ∧ ∀ i, i < n → ∃ b off, a = some ⟨b, off, none⟩ ∧ w.cell? ⟨b, off + i, none⟩ = some (.string (ss.getD i ByteArray.empty))

theorem RdS.mono {w w' : World} {a : Option Addr} {n : Nat} {ss : List ByteArray} (h : RdS w a n ss) (hb : Below w.heap.size w w') : RdS w' a n ss :=
  ⟨h.1, fun i hi => by
    obtain ⟨b, off, ha, hc⟩ := h.2 i hi
    exact ⟨b, off, ha, (hb.cell (World.block_lt_of_cell? w _ hc)).trans hc⟩⟩

theorem getD_map_str (ss : List ByteArray) (i : Nat) (h : i < ss.length) : (ss.map Value.string)[i]? = some (.string (ss.getD i ByteArray.empty)) := by
  simp [h]

theorem Try.infoStr : (Try.prog.info? 9).map (fun i => (i.zero, i.size, i.bytes)) = some (some (.string ⟨#[]⟩), 1, 16) := by kernel_rfl

theorem RdS.of_owns {w : World} {base g n cap : Nat} {ss : List ByteArray} (h : w.ownsRow base 9 1 (.slice (some ⟨g, 0, none⟩) n cap) n (ss.map Value.string)) : RdS w (some ⟨g, 0, none⟩) n ss := by
  have hl : ss.length = n := by have := h.1; simpa using this
  refine ⟨hl, fun i hi => ⟨g, 0, rfl, ?_⟩⟩
  have := h.cellAt i (by omega)
  rw [getD_map_str ss i (by omega)] at this
  simpa using this

set_option maxHeartbeats 400000 in
/-- laws.eqStringS at two slices of the same texts. -/
theorem eqStringS_same (a : Option Addr) (n c : Nat) (a' : Option Addr) (c' : Nat) (ss : List ByteArray) (w : World) (hr : RdS w a n ss) (hr' : RdS w a' n ss) (hn : n ≤ 1048577) :
    Calls Try.prog 8 #[.slice a n c, .slice a' n c'] w fun e w' => e = .returned (.bool true) ∧ Below w.heap.size w w' := by
  have hne : ((n : Int) != (n : Int)) = false := by simp
  go_enter Try.func8, Try.ntmps8
  go_wp2
  go_loopw [5] (fun i wr => ∃ k : Nat, k ≤ n ∧ i = .int .i64 k ∧ Below w.heap.size w wr) (fun i _ => n - (intOf i).toNat)
  case atStart => exact ⟨0, Nat.zero_le _, rfl, Below.refl _ _⟩
  case round =>
    obtain ⟨k, hk, rfl, hbel⟩ := hrel
    by_cases hlt : k < n
    · obtain ⟨b, off, rfl, hc⟩ := hr.2 k hlt
      obtain ⟨b', off', rfl, hc'⟩ := hr'.2 k hlt
      have hc1 : wr.cell? ⟨b, off + k, none⟩ = some (.string (ss.getD k ByteArray.empty)) := (hbel.cell (World.block_lt_of_cell? w _ hc)).trans hc
      have hc2 : wr.cell? ⟨b', off' + k, none⟩ = some (.string (ss.getD k ByteArray.empty)) := (hbel.cell (World.block_lt_of_cell? w _ hc')).trans hc'
      clear hc hc'
      generalize ss.getD k ByteArray.empty = x at *
      have hx : (x.toList == x.toList) = true := by simp
      go_wp2
      go_quiet (fail)
      go_wp2
      go_roundw
      case rel => exact ⟨k + 1, by omega, by go_num, below_drewN hbel _⟩
      case measure => simp [intOf]; omega
    · go_wp2
      go_ret
      exact ⟨rfl, hbel⟩

def pre (u : Nat) : List UInt8 := if u = 0 then [] else Lib.decDigits u

theorem pre_step (u : Nat) (h : u ≠ 0) : pre u = pre (u / 10) ++ [UInt8.ofNat (48 + u % 10)] := by
  unfold pre
  rw [if_neg h, Lib.decDigits]
  by_cases h1 : u < 10
  · rw [dif_pos h1, if_pos (by omega), Nat.mod_eq_of_lt h1, List.nil_append]
  · rw [dif_neg h1, if_neg (by omega)]

theorem pre_length (k u : Nat) (h : u < 10 ^ k) : (pre u).length ≤ k := by
  induction k generalizing u with
  | zero => have : u = 0 := by simpa using h
            subst this; simp [pre]
  | succ k ih =>
    by_cases hu : u = 0
    · subst hu; simp [pre]
    · rw [pre_step u hu, List.length_append]
      have := ih (u / 10) (by rw [Nat.pow_succ] at h; omega)
      simp only [List.length_singleton]
      omega

theorem dig_next (u : Nat) (s : ByteArray) (r : List UInt8) (h : u ≠ 0) (hl : pre u ++ s.data.toList = r) : pre (u / 10) ++ ({ data := #[48 + UInt8.ofNat (u % 10)] } ++ s : ByteArray).data.toList = r := by
  rw [pre_step u h] at hl
  rw [← hl, ByteArray.data_append]
  simp

theorem ret_num {a b : Int} (h : a = b) : Ending.returned (.int .i64 a) = .returned (.int .i64 b) := by rw [h]
theorem ret_str {a b : ByteArray} (h : a = b) : Ending.returned (.string a) = .returned (.string b) := by rw [h]

theorem conv_one (W : World) (c : Nat) (h1 : c ≤ 255) :
    (convert 38 9 (Value.slice (some ⟨W.heap.size, 0, none⟩) 1 1)).run Try.prog (W.alloc (.cells #[.int .u8 (c : Int)] 5)) = .ok (.string ⟨#[UInt8.ofNat c]⟩) (W.alloc (.cells #[.int .u8 (c : Int)] 5)) := by
  have h := run_convert_bytes_back (P := Try.prog) (W.alloc (.cells #[.int .u8 (c : Int)] 5)) 38 9 5 ⟨W.heap.size, 0, none⟩ 1 [UInt8.ofNat c] Try.underlying38 Try.underlying5 Try.underlying9 (by
    intro j hj
    have : j = 0 := by simpa using hj
    subst this
    simp [Addr.add]
    omega)
  simpa using h

def mtext (n : Nat) : ByteArray := ⟨(109 :: pre n).toArray⟩

set_option maxHeartbeats 800000 in
/-- laws.markText at a number above 0. -/
theorem markText_any (n : Nat) (w : World) (h0 : 1 ≤ n) (h1 : n ≤ 2097152) :
    Calls Try.prog 20 #[.int .i64 n] w fun e w' => e = .returned (.string (mtext n)) ∧ Below w.heap.size w w' := by
  have hz : ¬ (n : Int) ≤ 0 := by omega
  have HN : Hid ((pre n).length ≤ 19) := pre_length 19 n (by omega)
  go_enter Try.func20, Try.ntmps20
  go_wp2
  go_loopw [0, 3] (fun m o wr => ∃ (u : Nat) (s : ByteArray), u ≤ n ∧ m = .int .i64 u ∧ o = .string s ∧ pre u ++ s.data.toList = pre n ∧ Below w.heap.size w wr) (fun m _ _ => (intOf m).toNat)
  case atStart => exact ⟨n, ⟨#[]⟩, Nat.le_refl _, rfl, rfl, List.append_nil _, Below.refl _ _⟩
  case round =>
    obtain ⟨u, s, hu, rfl, rfl, hl, hbel⟩ := hrel
    have hsz : s.size ≤ 19 := by
      have := congrArg List.length hl
      have e : s.size = s.data.toList.length := by rw [Array.length_toList]; rfl
      have := HN.out
      rw [List.length_append] at *
      omega
    have HL : Hid (pre u ++ s.data.toList = pre n) := hl
    clear hl
    by_cases hne : u = 0
    · subst hne
      go_wp2
      go_ret
      refine ⟨?_, hbel⟩
      have := HL.out
      simp [pre] at this
      exact ret_str (by rw [mtext, pre, ← this]; apply ByteArray.ext; simp)
    · have hnb : 0 < (u : Int) := by omega
      have hcv := conv_one wr (48 + u % 10) (by omega)
      have hcv' : (convert 38 9 (Value.slice (some ⟨wr.heap.size, 0, none⟩) 1 1)).run Try.prog (wr.alloc (.cells #[.int .u8 (48 + (u : Int) % 10)] 5)) = .ok (.string ⟨#[UInt8.ofNat (48 + u % 10)]⟩) (wr.alloc (.cells #[.int .u8 (48 + (u : Int) % 10)] 5)) := by
        simpa using hcv
      clear hcv
      have HS : Hid (pre (u / 10) ++ ({ data := #[48 + UInt8.ofNat (u % 10)] } ++ s : ByteArray).data.toList = pre n) := dig_next u s _ hne HL.out
      have hbw : Below w.heap.size w (wr.alloc (.cells #[.int .u8 (48 + (u : Int) % 10)] 5)) := hbel.alloc hbel.size _
      go_wp2
      go_roundw
      case rel => exact ⟨u / 10, _, by omega, by go_num, rfl, HS.out, hbw⟩
      case measure => simp [intOf]; omega
end Go.Proofs.Ytljpiamkihhieam
