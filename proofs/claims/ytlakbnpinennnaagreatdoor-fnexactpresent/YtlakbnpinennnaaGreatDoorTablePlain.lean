/- A table of four times four flags, in plain words. -/
import Derived.Test.YtlakbnpinennnaaGreatDoorTable
namespace Go.Proofs.YtlakbnpinennnaaGreatDoor
open Go.RowKit
set_option linter.unusedVariables false

/-- The flag of row a, column b. -/
def fl (F : List Bool) (i : Nat) : Bool := F.getD i false
def flagsOf (ps : List PairV) (c : Nat) : List Bool := (List.range 16).map fun (i : Nat) => decide (i / 4 < c) && decide (i % 4 < c) && besB ps ((i / 4 : Nat) : Int) ((i % 4 : Nat) : Int)
theorem flagsOf_len (ps : List PairV) (c : Nat) : (flagsOf ps c).length = 16 := by simp [flagsOf]
theorem flagsOf_at (ps : List PairV) (c i : Nat) (h : i < 16) : (flagsOf ps c)[i]? = some (decide (i / 4 < c) && decide (i % 4 < c) && besB ps ((i / 4 : Nat) : Int) ((i % 4 : Nat) : Int)) := by
  simp [flagsOf, h]
theorem flagsOf_fl (ps : List PairV) (c i : Nat) (h : i < 16) : fl (flagsOf ps c) i = (decide (i / 4 < c) && decide (i % 4 < c) && besB ps ((i / 4 : Nat) : Int) ((i % 4 : Nat) : Int)) := by
  rw [fl, List.getD_eq_getElem?_getD, flagsOf_at ps c i h]
  rfl
theorem flagsOf_two (ps : List PairV) (c i j : Nat) (hi : i < 4) (hj : j < 4) : fl (flagsOf ps c) (i * 4 + j) = (decide (i < c) && decide (j < c) && besB ps (i : Int) (j : Int)) := by
  rw [flagsOf_fl ps c _ (by omega), show (i * 4 + j) / 4 = i by omega, show (i * 4 + j) % 4 = j by omega]
theorem besB_snoc (ps : List PairV) (q : PairV) (x y : Int) : besB (ps ++ [q]) x y = (besB ps x y || PairV.is x y q) := by simp [besB]
theorem flags_none (c : Nat) : flagsOf [] c = List.replicate 16 false := by
  refine List.ext_getElem? fun i => ?_
  by_cases h : i < 16
  · rw [flagsOf_at [] c i h, List.getElem?_replicate, if_pos h]
    simp [besB]
  · rw [List.getElem?_eq_none (by rw [flagsOf_len]; omega), List.getElem?_eq_none (by simp; omega)]
theorem flags_skip (ps : List PairV) (q : PairV) (c : Nat) (h : ¬ (0 ≤ q.a ∧ q.a ≤ (c : Int) - 1 ∧ 0 ≤ q.b ∧ q.b ≤ (c : Int) - 1)) : flagsOf (ps ++ [q]) c = flagsOf ps c := by
  refine List.ext_getElem? fun i => ?_
  by_cases hi : i < 16
  · rw [flagsOf_at _ c i hi, flagsOf_at _ c i hi, besB_snoc]
    congr 1
    by_cases h1 : i / 4 < c
    · by_cases h2 : i % 4 < c
      · have : PairV.is ((i / 4 : Nat) : Int) ((i % 4 : Nat) : Int) q = false := by
          unfold PairV.is
          rw [Bool.and_eq_false_iff, beq_eq_false_iff_ne, beq_eq_false_iff_ne]
          omega
        rw [this, Bool.or_false]
      · simp [h2]
    · simp [h1]
  · rw [List.getElem?_eq_none (by rw [flagsOf_len]; omega), List.getElem?_eq_none (by rw [flagsOf_len]; omega)]
theorem flags_hit (ps : List PairV) (q : PairV) (c A B : Nat) (hA : q.a = A) (hB : q.b = B) (h1 : A < c) (h2 : B < c) (hc : c ≤ 4) : flagsOf (ps ++ [q]) c = (flagsOf ps c).set (A * 4 + B) true := by
  refine List.ext_getElem? fun i => ?_
  by_cases hi : i < 16
  · by_cases e : i = A * 4 + B
    · subst e
      rw [List.getElem?_set_self (by rw [flagsOf_len]; exact hi), flagsOf_at _ c _ hi, besB_snoc]
      have e1 : (A * 4 + B) / 4 = A := by omega
      have e2 : (A * 4 + B) % 4 = B := by omega
      rw [e1, e2]
      have : PairV.is (A : Int) (B : Int) q = true := by
        unfold PairV.is
        rw [Bool.and_eq_true, beq_iff_eq, beq_iff_eq]
        exact ⟨hA, hB⟩
      simp [this, h1, h2]
    · rw [List.getElem?_set_ne (by omega), flagsOf_at _ c _ hi, flagsOf_at _ c _ hi, besB_snoc]
      have : PairV.is ((i / 4 : Nat) : Int) ((i % 4 : Nat) : Int) q = false := by
        unfold PairV.is
        rw [Bool.and_eq_false_iff, beq_eq_false_iff_ne, beq_eq_false_iff_ne]
        omega
      rw [this, Bool.or_false]
  · rw [List.getElem?_eq_none (by rw [flagsOf_len]; omega), List.getElem?_eq_none (by rw [List.length_set, flagsOf_len]; omega)]
/-- The table turned round. -/
def turnL (F : List Bool) : List Bool := (List.range 16).map fun (i : Nat) => fl F (i % 4 * 4 + i / 4)
def sameF (F G : List Bool) : Bool := (List.range 4).all fun i => (List.range 4).all fun j => fl F (i * 4 + j) == fl G (i * 4 + j)
def selfB (F : List Bool) (c : Nat) : Bool := (List.range c).all fun k => fl F (k * 4 + k)
theorem turnL_two (F : List Bool) (i j : Nat) (hi : i < 4) (hj : j < 4) : fl (turnL F) (i * 4 + j) = fl F (j * 4 + i) := by
  have h : i * 4 + j < 16 := by omega
  rw [fl, List.getD_eq_getElem?_getD]
  simp only [turnL, List.getElem?_map, List.getElem?_range h, Option.map_some, Option.getD_some]
  rw [show (i * 4 + j) / 4 = i by omega, show (i * 4 + j) % 4 = j by omega]
theorem table_flags (ps : List PairV) (c : Nat) (h1 : 1 ≤ c) (h4 : c ≤ 4) : (sameF (flagsOf ps c) (turnL (flagsOf ps c)) && selfB (flagsOf ps c) c) = tableB ps (c : Int) := by
  rw [Bool.eq_iff_iff]
  unfold tableB sameF selfB tableRow
  rw [Int.toNat_natCast]
  simp only [Bool.and_eq_true, List.all_eq_true, List.mem_range, decide_eq_true_eq, Bool.not_eq_true', Bool.or_eq_false_iff, Bool.and_eq_false_iff, decide_eq_false_iff_not, Bool.not_eq_false', beq_iff_eq, bne_eq_false_iff_eq]
  constructor
  · rintro ⟨hs, hd⟩
    refine ⟨⟨by omega, by omega⟩, fun a ha b hb => ⟨?_, ?_⟩⟩
    · right
      have := hd a ha
      rw [flagsOf_two ps c a a (by omega) (by omega)] at this
      simpa [ha] using this
    · have := hs a (by omega) b (by omega)
      rw [turnL_two _ a b (by omega) (by omega), flagsOf_two ps c a b (by omega) (by omega), flagsOf_two ps c b a (by omega) (by omega)] at this
      simpa [ha, hb] using this
  · rintro ⟨_, h⟩
    refine ⟨fun i hi j hj => ?_, fun k hk => ?_⟩
    · rw [turnL_two _ i j hi hj, flagsOf_two ps c i j hi hj, flagsOf_two ps c j i hj hi]
      by_cases a1 : i < c
      · by_cases a2 : j < c
        · simp [a1, a2, (h i a1 j a2).2]
        · simp [a2]
      · simp [a1]
    · rw [flagsOf_two ps c k k (by omega) (by omega)]
      rcases (h k hk k hk).1 with e | e
      · exact absurd rfl e
      · simp [hk, e]
def inBT (c : Int) : Bool := decide (1 ≤ c) && decide (c ≤ 4)
theorem table_out (ps : List PairV) (c : Int) (h : inBT c = false) : tableB ps c = false := by
  unfold inBT at h
  unfold tableB
  rw [h, Bool.false_and]
end Go.Proofs.YtlakbnpinennnaaGreatDoor
