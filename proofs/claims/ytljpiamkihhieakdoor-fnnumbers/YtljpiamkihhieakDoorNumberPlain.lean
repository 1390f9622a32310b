/- Plain facts on decimal numerals: what a number's digits spell is the number. -/
import Derived.Lib.ItoaNum
import Derived.Lib.AtoiTie
namespace Go.Proofs.YtljpiamkihhieakDoor

theorem decFrom_snoc : ∀ (l : List UInt8) (acc n : Nat) (b : UInt8) (d : Nat), Lib.decFrom acc l = some n → Lib.digitVal b = some d → Lib.decFrom acc (l ++ [b]) = some (n * 10 + d)
  | [], acc, n, b, d, h, hd => by
    simp only [Lib.decFrom] at h
    cases h
    simp [Lib.decFrom, hd]
  | c :: r, acc, n, b, d, h, hd => by
    simp only [List.cons_append, Lib.decFrom] at h ⊢
    cases hc : Lib.digitVal c with
    | none => rw [hc] at h; cases h
    | some x => rw [hc] at h; exact decFrom_snoc r _ n b d h hd

theorem digit_of (d : Nat) (h : d < 10) : Lib.digitVal (UInt8.ofNat (48 + d)) = some d := by
  have e : (UInt8.ofNat (48 + d)).toNat = 48 + d := by rw [UInt8.toNat_ofNat']; omega
  rw [Lib.digitVal, e, if_pos (by omega)]
  congr 1
  omega

theorem decFrom_decDigits (n : Nat) : Lib.decFrom 0 (Lib.decDigits n) = some n := by
  induction n using Nat.strongRecOn with
  | _ n ih =>
    rw [Lib.decDigits]
    by_cases h : n < 10
    · rw [dif_pos h]
      have := decFrom_snoc [] 0 0 (UInt8.ofNat (48 + n)) n rfl (digit_of n h)
      simpa using this
    · rw [dif_neg h]
      have := decFrom_snoc (Lib.decDigits (n / 10)) 0 (n / 10) (UInt8.ofNat (48 + n % 10)) (n % 10) (ih (n / 10) (by omega)) (digit_of _ (by omega))
      rw [this]
      congr 1
      omega

theorem decDigits_len6 (n : Nat) (h : n ≤ 999999) : 1 ≤ (Lib.decDigits n).length ∧ (Lib.decDigits n).length ≤ 6 := by
  rw [Lib.decDigits_length]
  refine ⟨Lib.nDigits_pos n, ?_⟩
  by_cases h1 : n < 10
  · rw [Lib.nDigits_small h1]; omega
  rw [Lib.nDigits_big h1]
  by_cases h2 : n / 10 < 10
  · rw [Lib.nDigits_small h2]; omega
  rw [Lib.nDigits_big h2]
  by_cases h3 : n / 10 / 10 < 10
  · rw [Lib.nDigits_small h3]; omega
  rw [Lib.nDigits_big h3]
  by_cases h4 : n / 10 / 10 / 10 < 10
  · rw [Lib.nDigits_small h4]; omega
  rw [Lib.nDigits_big h4]
  by_cases h5 : n / 10 / 10 / 10 / 10 < 10
  · rw [Lib.nDigits_small h5]; omega
  rw [Lib.nDigits_big h5, Lib.nDigits_small (by omega)]
  omega

/-- What Number answers. -/
def numOf (l : List UInt8) : Option Nat :=
  if 1 ≤ l.length ∧ l.length ≤ 6 then
    match Lib.decFrom 0 l with
    | some m => if Lib.decDigits m = l then some m else none
    | none => none
  else none
def numN (l : List UInt8) : Int := match numOf l with | some m => (m : Int) | none => 0
def numB (l : List UInt8) : Bool := (numOf l).isSome

theorem numOf_some {l : List UInt8} {m : Nat} (h : numOf l = some m) : m ≤ 999999 ∧ l = Lib.decDigits m ∧ Lib.decFrom 0 l = some m := by
  unfold numOf at h
  by_cases h1 : 1 ≤ l.length ∧ l.length ≤ 6
  · rw [if_pos h1] at h
    cases hd : Lib.decFrom 0 l with
    | none => rw [hd] at h; cases h
    | some x =>
      rw [hd] at h
      simp only at h
      by_cases h2 : Lib.decDigits x = l
      · rw [if_pos h2] at h
        cases h
        have hlt := Lib.decFrom_lt l 0 _ hd
        have hp : 10 ^ l.length ≤ 10 ^ 6 := Nat.pow_le_pow_right (by omega) h1.2
        refine ⟨?_, h2.symm, rfl⟩
        have : (10 : Nat) ^ 6 = 1000000 := by decide
        omega
      · rw [if_neg h2] at h; cases h
  · rw [if_neg h1] at h; cases h

theorem numOf_decDigits (m : Nat) (h : m ≤ 999999) : numOf (Lib.decDigits m) = some m := by
  unfold numOf
  rw [if_pos (decDigits_len6 m h), decFrom_decDigits]
  simp

theorem numN_of {l : List UInt8} {m : Nat} (h : numOf l = some m) : numN l = m := by unfold numN; rw [h]
theorem numN_no {l : List UInt8} (h : numOf l = none) : numN l = 0 := by unfold numN; rw [h]
theorem numB_of {l : List UInt8} {m : Nat} (h : numOf l = some m) : numB l = true := by unfold numB; rw [h]; rfl
theorem numB_no {l : List UInt8} (h : numOf l = none) : numB l = false := by unfold numB; rw [h]; rfl

theorem atoi_of {l : List UInt8} {m : Nat} (h : numOf l = some m) : Lib.atoiAll l = .ok (m : Int) := by
  obtain ⟨hm, hl, hd⟩ := numOf_some h
  have hlen := decDigits_len6 m hm
  rw [← hl] at hlen
  rw [Lib.atoiAll_short l (by omega)]
  cases l with
  | nil => simp at hlen
  | cons b r =>
    obtain ⟨d, hb⟩ := Lib.digit_of_decFrom (b :: r) 0 m hd 0 b rfl
    have hb' := Lib.digitVal_eq hb
    have e : Lib.atoi (b :: r) = some (m : Int) := by
      have n1 : (b == 45) = false := by
        rw [beq_eq_false_iff_ne]; intro e; subst e; have := hb'.1; simp at this
      have n2 : (b == 43) = false := by
        rw [beq_eq_false_iff_ne]; intro e; subst e; have := hb'.1; simp at this
      simp [Lib.atoi, n1, n2, Lib.decNat, hd]
    rw [e]
    rfl

/-- Where Atoi answers, and what it answers has these digits, it is what Number answers. -/
theorem numOf_of_atoi {l : List UInt8} {v : Int} (h0 : 0 ≤ v) (h1 : v ≤ 999999) (h : Lib.itoa v = l) : numOf l = some v.toNat := by
  rw [Lib.itoa, if_neg (by omega)] at h
  rw [← h]
  exact numOf_decDigits _ (by omega)
end Go.Proofs.YtljpiamkihhieakDoor
