/- The laws' marks over a slice of texts: what is marked, and that it is held. -/
import Derived.Test.YtljpiamkihhieamStrs
namespace Go.Proofs.Ytljpiamkihhieam
open Go.RowKit

theorem gb_below {w wr w1 : World} {row : Option Nat} (h : w.grownBy wr row) (hb : Below wr.heap.size wr w1) : w.grownBy w1 row :=
  ⟨hb.os.trans h.os, hb.tape.trans h.tape, hb.output.trans h.output, Nat.le_trans h.size hb.size, fun k hk hne => (hb.block k (Nat.lt_of_lt_of_le hk h.size)).trans (h.block k hk hne)⟩
theorem gb_set {w wr : World} {g : Nat} (h : w.grownBy wr (some g)) (j : Nat) (u : Value) : w.grownBy (wr.setCell ⟨g, j, none⟩ u) (some g) :=
  ⟨h.os, h.tape, h.output, by simpa using h.size, fun k hk hne => (Below.heap_setCell wr _ u k (fun e => hne (by rw [e]))).trans (h.block k hk hne)⟩

def marks (k0 n : Nat) : List ByteArray := (List.range n).map fun i => mtext (k0 + i)

theorem marks_len (k0 n : Nat) : (marks k0 n).length = n := by simp [marks]
theorem marks_at (k0 n i : Nat) (h : i < n) : (marks k0 n).getD i ByteArray.empty = mtext (k0 + i) := by simp [marks, h]
theorem marks_step (k0 k n : Nat) (xs : List Value) (hl : xs.length = n) (h : k < n) :
    (((marks k0 k).map Value.string) ++ xs.drop k).set k (.string (mtext (k0 + k))) = ((marks k0 (k + 1)).map Value.string) ++ xs.drop (k + 1) := by
  have hlen : ((marks k0 k).map Value.string).length = k := by simp [marks]
  rw [List.set_append_right _ _ (by omega), hlen, Nat.sub_self]
  have e : xs.drop k = xs[k] :: xs.drop (k + 1) := List.drop_eq_getElem_cons (by omega)
  rw [e, List.set_cons_zero]
  simp [marks, List.range_succ]
theorem marks_cell (k0 k n : Nat) (xs : List Value) (hl : xs.length = n) (h : k < n) :
    (((marks k0 k).map Value.string) ++ xs.drop k)[k]? = some xs[k] := by
  have hlen : ((marks k0 k).map Value.string).length = k := by simp [marks]
  rw [List.getElem?_append_right (by omega), hlen, Nat.sub_self, List.getElem?_drop]
  simp [hl, h]

theorem own_later {w w1 : World} {base e size g n cap : Nat} {xs : List Value} (h : w.ownsRow base e size (.slice (some ⟨g, 0, none⟩) n cap) n xs) (hb : Below w.heap.size w w1) : w1.ownsRow base e size (.slice (some ⟨g, 0, none⟩) n cap) n xs := by
  refine ⟨h.1, ?_⟩
  rcases h.2 with h' | ⟨g', cap', cur, h1, h2, h3, h4⟩
  · exact Or.inl h'
  · exact Or.inr ⟨g', cap', cur, h1, h2, (hb.block g' (lt_of_block h3)).trans h3, h4⟩

set_option maxHeartbeats 800000 in
theorem markStringS_any (base g n cap k0 : Nat) (ss : List ByteArray) (w : World) (hown : w.ownsRow base 9 1 (.slice (some ⟨g, 0, none⟩) n cap) n (ss.map Value.string)) (hn : n ≤ 1048577) (hk0 : 1 ≤ k0) (hk1 : k0 ≤ 10) :
    Calls Try.prog 9 #[.slice (some ⟨g, 0, none⟩) n cap, .int .i64 k0] w fun e w' => e = .returned (.int .i64 ((k0 + n : Nat) : Int)) ∧
      w'.ownsRow base 9 1 (.slice (some ⟨g, 0, none⟩) n cap) n ((marks k0 n).map Value.string) ∧ w.grownBy w' (some g) := by
  have hl : ss.length = n := by have := hown.1; simpa using this
  go_enter Try.func9, Try.ntmps9
  go_wp2
  go_loopw [1, 5] (fun t i wr => ∃ k : Nat, k ≤ n ∧ i = .int .i64 k ∧ t = .int .i64 ((k0 : Int) + k) ∧ wr.ownsRow base 9 1 (.slice (some ⟨g, 0, none⟩) n cap) n ((marks k0 k).map Value.string ++ (ss.map Value.string).drop k) ∧ w.grownBy wr (some g)) (fun _ i _ => n - (intOf i).toNat)
  case atStart => exact ⟨0, Nat.zero_le _, rfl, by go_num, by simpa [marks] using hown, World.grownBy.refl _ _⟩
  case round =>
    obtain ⟨k, hk, rfl, rfl, how, hgb⟩ := hrel
    by_cases hlt : k < n
    · have hE : ((k0 : Int) + k) = ((k0 + k : Nat) : Int) := by omega
      rw [hE]
      clear hE
      go_wp2_with fail
      refine (markText_any (k0 + k) wr (by omega) (by omega)).mono ?_
      rintro e w1 ⟨rfl, hb1⟩
      have how1 := own_later how hb1
      have hc2 : ∃ v, w1.cell? ⟨g, k, none⟩ = some (.string v) := by
        refine ⟨ss[k], (how1.cellAt k (by omega)).trans ?_⟩
        rw [marks_cell k0 k n _ (by simpa using hl) hlt]
        simp
      obtain ⟨v0, hc2⟩ := hc2
      have hf2 : w1.frozen? ⟨g, k, none⟩ = false := how1.frozenAt k
      have hst := (how1.stored k (.string (mtext (k0 + k)))).1
      rw [marks_step k0 k n _ (by simpa using hl) hlt] at hst
      have hgs := gb_set (gb_below hgb hb1) k (.string (mtext (k0 + k)))
      clear how how1 hb1 hgb
      generalize mtext (k0 + k) = mt at *
      go_wp2
      go_roundw
      case rel => exact ⟨k + 1, by omega, by go_num, by go_num, hst, hgs⟩
      case measure => simp [intOf]; omega
    · have hkn : k = n := by omega
      subst hkn
      go_wp2
      go_ret
      refine ⟨ret_num (by omega), ?_, hgb⟩
      rw [List.drop_of_length_le (by simp; omega), List.append_nil] at how
      exact how

set_option maxHeartbeats 800000 in
theorem heldStringS_any (a : Option Addr) (n cap k0 : Nat) (w : World) (hr : RdS w a n (marks k0 n)) (hn : n ≤ 1048577) (hk0 : 1 ≤ k0) (hk1 : k0 ≤ 10) :
    Calls Try.prog 10 #[.slice a n cap, .int .i64 k0] w fun e w' => e = .returned (.int .i64 ((k0 + n : Nat) : Int)) ∧ Below w.heap.size w w' := by
  go_enter Try.func10, Try.ntmps10
  go_wp2
  go_loopw [1, 5] (fun t i wr => ∃ k : Nat, k ≤ n ∧ i = .int .i64 k ∧ t = .int .i64 ((k0 : Int) + k) ∧ Below w.heap.size w wr) (fun _ i _ => n - (intOf i).toNat)
  case atStart => exact ⟨0, Nat.zero_le _, rfl, by go_num, Below.refl _ _⟩
  case round =>
    obtain ⟨k, hk, rfl, rfl, hbel⟩ := hrel
    by_cases hlt : k < n
    · obtain ⟨b, off, rfl, hc⟩ := hr.2 k hlt
      have hbw := World.block_lt_of_cell? w _ hc
      have hc1 : wr.cell? ⟨b, off + k, none⟩ = some (.string (mtext (k0 + k))) := by
        rw [hbel.cell (World.block_lt_of_cell? w _ hc), hc, marks_at k0 n k hlt]
      clear hc
      have hE : ((k0 : Int) + k) = ((k0 + k : Nat) : Int) := by omega
      rw [hE]
      clear hE
      have hmt := markText_any (k0 + k)
      generalize mtext (k0 + k) = mt at *
      have hx : (mt.toList == mt.toList) = true := by simp
      have hbr : b < wr.heap.size := Nat.lt_of_lt_of_le hbw hbel.size
      have HM : Hid (∀ (w : World), 1 ≤ k0 + k → k0 + k ≤ 2097152 → Calls Try.prog 20 #[.int .i64 ((k0 + k : Nat) : Int)] w fun e w' => e = .returned (.string mt) ∧ Below w.heap.size w w') := hmt
      clear hmt
      go_wp2
      go_region_held3 (fun w' => w'.cell? ⟨b, off + k, none⟩ = some (.string mt)) (first | exact hc1 | exact (hb1.cell hbr).trans hc1)
        (first
          | (go_at_call 20; refine (HM.out _ (by omega) (by omega)).mono ?_; rintro e w' ⟨rfl, hb1⟩))
      have hbn : Below w.heap.size w w' := hbel.drew.trans (hb1.mono hbel.size)
      clear hb1 hbel hc1
      go_wp2
      go_roundw
      case rel => exact ⟨k + 1, by omega, by go_num, by go_num, hbn⟩
      case measure => simp [intOf]; omega
    · have hkn : k = n := by omega
      subst hkn
      go_wp2
      go_ret
      exact ⟨ret_num (by omega), hbel⟩
end Go.Proofs.Ytljpiamkihhieam
