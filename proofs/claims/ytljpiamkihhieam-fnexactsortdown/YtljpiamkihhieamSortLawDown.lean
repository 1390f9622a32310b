/- laws.FnExactSortDown: at every slice of numbers the program's SortDown answers as the model's, writes into no argument and owns its memory. -/
import Derived.Test.YtljpiamkihhieamInts
import Derived.Test.YtljpiamkihhieamIntMarks
import Derived.Test.YtljpiamkihhieamSortImplDown
import Derived.Test.YtljpiamkihhieamMergeWalk
namespace Go.Proofs.Ytljpiamkihhieam
open Go.RowKit

set_option maxRecDepth 100000 in
set_option maxHeartbeats 3200000 in
theorem law_sortDown (a : Option Addr) (n c : Nat) (zs : List Int) (w : World) (hr : Rd w a n zs) (hm : n ≤ maxLen) :
    Calls Try.prog 5 #[.slice a n c] w fun e w' => e = .returned (.bool true) ∧ Below w.heap.size w w' := by
  unfold maxLen at hm
  by_cases hn : n ≤ 1048576
  · have hgt : ¬ (1048576 : Int) < (n : Int) := by omega
    have HR := hide hr
    clear hr
    obtain ⟨F, hF⟩ : ∃ F, F = sortP zs true (List.range n) := ⟨_, rfl⟩
    have HF := hide hF.symm
    clear hF
    go_enter Try.func5, Try.ntmps5
    go_wp2_with fail
    refine (toIntS_any a n c zs w HR.out hn).mono ?_
    rintro e w1 ⟨rfl, ho1, hb1⟩
    have B1 := hide hb1
    have R1 := hide (Rd.of_owns ho1)
    clear ho1 hb1
    go_wp2_with fail
    refine (specSortDown_any _ n n zs w1 R1.out hn).mono ?_
    rintro e w2 ⟨gW, cW, rfl, ho2, hb2⟩
    rw [HF.out] at ho2
    have B2 := hide (B1.out.trans (hb2.mono B1.out.size))
    have RW2 := hide (Rd.of_cells ho2)
    clear ho2 hb2 R1 B1
    go_wp2_with fail
    refine (toIntS_any a n c zs w2 (HR.out.mono B2.out) hn).mono ?_
    rintro e w3 ⟨rfl, ho3, hb3⟩
    have hs23 := hb3.size
    have hx3 := (ho3.lt w2.heap.size rfl).2
    have C3 := hide hb3
    have B3 := hide (B2.out.trans (hb3.mono B2.out.size))
    have OX3 := hide ho3
    clear ho3 hb3
    go_wp2_with fail
    refine (implSortDown_any _ n n zs w3 (Rd.of_owns OX3.out) ?_ hn).mono ?_
    · intro x hx; cases hx; exact hx3
    rintro e w4 ⟨rfl, ho4, hb4⟩
    rw [HF.out] at ho4
    have OG4 := hide ho4
    have OX4 := hide (own_later OX3.out hb4)
    have C4 := hide (C3.out.trans (hb4.mono hs23))
    have B4 := hide (B3.out.trans (hb4.mono B3.out.size))
    clear ho4 hb4 OX3 B3 C3
    generalize hgG : w3.heap.size + 1 = gG at *
    have hgX : w2.heap.size < gG := by omega
    clear hgG hx3 hs23
    go_wp2_with fail
    refine (eqIntS_same _ n n _ cW (ints F) w4 (Rd.of_cells OG4.out) (RW2.out.mono C4.out) hn).mono ?_
    rintro e w5 ⟨rfl, hb5⟩
    have OG5 := hide (own_later OG4.out hb5)
    have OX5 := hide (own_later OX4.out hb5)
    have C5 := hide (C4.out.trans (hb5.mono C4.out.size))
    have B5 := hide (B4.out.trans (hb5.mono B4.out.size))
    clear hb5 OG4 OX4 C4 B4
    go_wp2_with fail
    refine (toIntS_any a n c zs w5 (HR.out.mono B5.out) hn).mono ?_
    rintro e w6 ⟨rfl, ho6, hb6⟩
    have RT := hide (Rd.of_owns ho6)
    have OG6 := hide (own_later OG5.out hb6)
    have OX6 := hide (own_later OX5.out hb6)
    have C6 := hide (C5.out.trans (hb6.mono C5.out.size))
    have B6 := hide (B5.out.trans (hb6.mono B5.out.size))
    clear ho6 hb6 OG5 OX5 C5 B5
    go_wp2_with fail
    refine (eqIntS_same _ n n _ n zs w6 (Rd.of_owns OX6.out) RT.out hn).mono ?_
    rintro e w7 ⟨rfl, hb7⟩
    have OG7 := hide (own_later OG6.out hb7)
    have OX7 := hide (own_later OX6.out hb7)
    have C7 := hide (C6.out.trans (hb7.mono C6.out.size))
    have B7 := hide (B6.out.trans (hb7.mono B6.out.size))
    clear hb7 OG6 OX6 C6 B6 RT
    go_wp2_with fail
    refine (markIntS_any _ w2.heap.size n n 1 zs w7 OX7.out (by omega) (by omega)).mono ?_
    rintro e w8 ⟨rfl, _, hg8⟩
    have OG8 := hide (OG7.out.kept hg8 (Or.inr (by simp [Value.ownBlock]; omega)))
    have C8 := hide (C7.out.grown hg8 C7.out.size (by intro k hk; cases hk; exact Nat.le_refl _))
    have B8 := hide (B7.out.grown hg8 B7.out.size (by intro k hk; cases hk; exact B2.out.size))
    have hq1 : ((1 + (n : Int)) != (1 + (n : Int))) = false := by simp
    have hq2 : ¬ (1 + (n : Int)) < 0 := by omega
    have hq3 : decide ((1 + (n : Int)) < 0) = false := by simpa using hq2
    clear hg8 OG7 OX7 C7 B7
    go_wp2_with fail
    refine (eqIntS_same _ n n _ cW (ints F) w8 (Rd.of_cells OG8.out) (RW2.out.mono C8.out) hn).mono ?_
    rintro e w9 ⟨rfl, hb9⟩
    have OG9 := hide (own_later OG8.out hb9)
    have C9 := hide (C8.out.trans (hb9.mono C8.out.size))
    have B9 := hide (B8.out.trans (hb9.mono B8.out.size))
    clear hb9 OG8 C8 B8
    go_wp2_with fail
    refine (markIntS_any _ gG n n 1 (ints F) w9 (by rw [cells_ints]; exact OG9.out) (by omega) (by omega)).mono ?_
    rintro e w10 ⟨rfl, ho10, hg10⟩
    have RG10 := hide (Rd.of_owns ho10)
    have C10 := hide (C9.out.grown hg10 C9.out.size (by intro k hk; cases hk; omega))
    have B10 := hide (B9.out.grown hg10 B9.out.size (by intro k hk; cases hk; have := B2.out.size; omega))
    clear ho10 hg10 OG9 C9 B9
    go_wp2_with fail
    refine (heldIntS_any _ n n 1 w10 RG10.out (by omega) (by omega)).mono ?_
    rintro e w10' ⟨rfl, rfl⟩
    go_wp2_with fail
    refine (toIntS_any a n c zs _ (HR.out.mono B10.out) hn).mono ?_
    rintro e w11 ⟨rfl, ho11, hb11⟩
    have hx11 := (ho11.lt _ rfl).2
    have OT := hide ho11
    have RG11 := hide (RG10.out.mono hb11)
    have C11 := hide (C10.out.trans (hb11.mono C10.out.size))
    have B11 := hide (B10.out.trans (hb11.mono B10.out.size))
    clear ho11 hb11 RG10 C10 B10
    go_wp2_with fail
    refine (implSortDown_any _ n n zs w11 (Rd.of_owns OT.out) ?_ hn).mono ?_
    · intro x hx; cases hx; exact hx11
    rintro e w12 ⟨rfl, ho12, hb12⟩
    rw [HF.out] at ho12
    have RH := hide (Rd.of_cells ho12)
    have RG12 := hide (RG11.out.mono hb12)
    have C12 := hide (C11.out.trans (hb12.mono C11.out.size))
    have B12 := hide (B11.out.trans (hb12.mono B11.out.size))
    clear ho12 hb12 RG11 C11 B11 hx11 OT
    go_wp2_with fail
    refine (eqIntS_same _ n n _ cW (ints F) w12 RH.out (RW2.out.mono C12.out) hn).mono ?_
    rintro e w13 ⟨rfl, hb13⟩
    have RG13 := hide (RG12.out.mono hb13)
    have B13 := hide (B12.out.trans (hb13.mono B12.out.size))
    clear hb13 RG12 C12 B12 RH
    go_wp2_with fail
    refine (heldIntS_any _ n n 1 w13 RG13.out (by omega) (by omega)).mono ?_
    rintro e w13' ⟨rfl, rfl⟩
    go_wp2
    go_ret
    exact ⟨rfl, B13.out⟩
  · have hgt : (1048576 : Int) < (n : Int) := by omega
    go_enter Try.func5, Try.ntmps5
    go_wp2
    go_ret
    exact ⟨rfl, Below.refl _ _⟩
end Go.Proofs.Ytljpiamkihhieam
