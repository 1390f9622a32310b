/- The law of Groups, walked: it returns true at every argument. -/
import Derived.Test.YtmjohalblppgiabGroups3
import Derived.Test.YtmjohalblppgiabMarks2
import Derived.Test.YtmjohalblppgiabEqS
namespace Go.Proofs.Ytmjohalblppgiab
open Go.RowKit
set_option linter.unusedVariables false
theorem totR_bnd {k : Nat} : ∀ (xs : List RowV), (∀ g ∈ xs.map RowV.l, g.length ≤ k) → totR xs ≤ k * xs.length
  | [], _ => by simp [totR]
  | r :: xs, h => by
    have h1 := totR_bnd xs (fun g hg => h g (by simp only [List.map_cons, List.mem_cons]; exact Or.inr hg))
    have h2 := h r.l (by simp)
    have e : totR (r :: xs) = r.l.length + totR xs := by simp [totR]
    rw [e, List.length_cons, Nat.mul_succ]
    omega
theorem groups_small {ps : List PairV} {l : List Int} {xs : List RowV} (h : xs.map RowV.l = groupsL ps l) : xs.length ≤ 4 ∧ totR xs ≤ 16 ∧ ∀ i, i < xs.length → ((groupsL ps l).getD i []).length ≤ 1048576 := by
  have hb := groupsTo_bnd ps l 4 (Nat.le_refl _)
  rw [groupsTo_four, ← h] at hb
  have h1 : xs.length ≤ 4 := by have := hb.1; simpa using this
  have h2 := totR_bnd xs hb.2
  refine ⟨h1, by omega, fun i hi => ?_⟩
  rw [← h]
  have := hb.row i (by simpa using hi)
  omega
set_option maxHeartbeats 2000000 in
theorem law_groups (a : Option Addr) (n c : Nat) (ps : List PairV) (a' : Option Addr) (n' c' : Nat) (l : List Int) (w : World) (hr : RdR PairV.cells 2 w a n ps) (hm : n ≤ maxLen) (hr' : Rd w a' n' l) (hm' : n' ≤ maxLen) :
    Calls Try.prog 3 #[.slice a n c, .slice a' n' c'] w fun e w' => e = .returned (.bool true) ∧ Below w.heap.size w w' := by
  by_cases hn' : n' ≤ 1048576
  case neg =>
    have hgt : (1048576 : Int) < (n' : Int) := by omega
    unfold maxLen at hm'
    go_enter Try.func3, Try.ntmps3
    go_wp2_with fail
    go_ret
    exact ⟨rfl, Below.refl _ _⟩
  have hgt : ¬ (1048576 : Int) < (n' : Int) := by omega
  by_cases hs : (1048576 : Int) - n < 0
  · go_enter Try.func3, Try.ntmps3
    go_wp2_with fail
    refine (szPairS_any a n c _ w hm (by omega) (by omega)).mono ?_
    rintro e w1 ⟨rfl, rfl⟩
    rw [if_pos hs]
    go_wp2_with fail
    go_ret
    exact ⟨rfl, Below.refl _ _⟩
  have hn : n ≤ 1048576 := by omega
  have HR := hide hr
  have HR' := hide hr'
  clear hr hr'
  go_enter Try.func3, Try.ntmps3
  go_wp2_with fail
  refine (szPairS_any a n c _ w hm (by omega) (by omega)).mono ?_
  rintro e w1 ⟨rfl, hw⟩
  subst w1
  rw [if_neg (show ¬ (1048576 : Int) - n < 0 by omega)]
  have hl0 : ¬ (1048576 : Int) - n < 0 := by omega
  clear hs
  generalize (1048576 : Int) - n = q at hl0 ⊢
  go_wp2_with fail
  refine (toPairS_any a n c ps _ (unhide HR) hn).mono ?_
  rintro e w2 ⟨g2, rfl, hr2, hb2, hg2, hz2⟩
  have H2 := hide hb2
  have R2 := hide hr2
  clear hr2 hb2 hg2 hz2
  go_wp2_with fail
  refine (toIntS_any a' n' c' l _ ((unhide HR').mono (unhide H2)) hn').mono ?_
  rintro e w3 ⟨rfl, ho3, hb3⟩
  have H3 := hide ((unhide H2).trans (hb3.mono (unhide H2).size))
  have R3 := hide ((unhide R2).mono (by omega) PairV.len hb3)
  have S3 := hide (Rd.of_owns ho3)
  clear ho3 hb3 H2 R2
  go_wp2_with fail
  refine (specGroups_any _ n n ps _ n' n' l w3 (unhide R3) (unhide S3) (by omega) (by omega)).mono ?_
  rintro e w4 ⟨g4, cap4, xs4, rfl, ho4, hg4, hb4⟩
  have H4 := hide ((unhide H3).trans (hb4.mono (unhide H3).size))
  have z04 : w.heap.size ≤ w4.heap.size := (unhide H4).size
  obtain ⟨l4, _, s4⟩ := groups_small hg4
  have W4 : Hid (Rd2 w4 (some ⟨g4, 0, none⟩) xs4.length (groupsL ps l)) := by have := ho4.read; rw [hg4] at this; exact this
  have HL4 := hide (show xs4.length = (groupsL ps l).length by rw [← hg4, List.length_map])
  have HS4 := hide s4
  clear hb4 H3 R3 S3 ho4 hg4 s4
  go_wp2_with fail
  refine (toPairS_own a n c ps _ ((unhide HR).mono (by omega) PairV.len (unhide H4)) hn).mono ?_
  rintro e w5 ⟨L5, rfl, ho5, hr5, hb5⟩
  have H5 := hide ((unhide H4).trans (hb5.mono (unhide H4).size))
  have R5 := hide hr5
  have O5 := hide ho5
  have z45 : w4.heap.size < w5.heap.size := (ho5.lt _ rfl).2
  have B45 := hide hb5
  clear hr5 hb5 ho5
  go_wp2_with fail
  refine (toIntS_any a' n' c' l _ ((unhide HR').mono (unhide H5)) hn').mono ?_
  rintro e w6 ⟨rfl, ho6, hb6⟩
  have H6 := hide ((unhide H5).trans (hb6.mono (unhide H5).size))
  have R6 := hide ((unhide R5).mono (by omega) PairV.len hb6)
  have O6 := hide (own_later (unhide O5) hb6)
  have P6 := hide ho6
  have B46 := hide ((unhide B45).trans (hb6.mono (unhide B45).size))
  have z56 : w5.heap.size < w6.heap.size := (ho6.lt _ rfl).2
  clear ho6 hb6 H5 R5 O5 B45
  go_wp2_with fail
  refine (groups_any _ n n ps _ n' n' l w6 (unhide R6) (Rd.of_owns (unhide P6)) (by omega) (by omega)).mono ?_
  rintro e w7 ⟨g7, cap7, xs7, rfl, ho7, hg7, hb7⟩
  have H7 := hide ((unhide H6).trans (hb7.mono (unhide H6).size))
  obtain ⟨l7, t7, s7⟩ := groups_small hg7
  have hlen : xs4.length = xs7.length := (unhide HL4).trans (by rw [← hg7, List.length_map])
  have G7 := hide hg7
  have S7 := hide s7
  have O7 := hide ho7
  have R7 := hide ((unhide R6).mono (by omega) PairV.len hb7)
  have P7 := hide (own_later (unhide P6) hb7)
  have Q7 := hide (own_later (unhide O6) hb7)
  have B47 := hide ((unhide B46).trans (hb7.mono (unhide B46).size))
  have z67 : w6.heap.size ≤ w7.heap.size := hb7.size
  clear hb7 ho7 hg7 s7 H6 R6 O6 P6 B46 HL4 HS4
  rw [hlen] at W4 ⊢
  clear hlen l4
  go_wp2_with fail
  refine (eqIntSS_same _ xs7.length cap7 _ cap4 (groupsL ps l) w7 (by have := (unhide O7).read; rw [unhide G7] at this; exact this) ((unhide W4).mono (unhide B47)) (by omega) (unhide S7)).mono ?_
  rintro e w8 ⟨rfl, hb8⟩
  have H8 := hide ((unhide H7).trans (hb8.mono (unhide H7).size))
  have O8 := hide ((unhide O7).later hb8)
  have R8 := hide ((unhide R7).mono (by omega) PairV.len hb8)
  have P8 := hide (own_later (unhide P7) hb8)
  have Q8 := hide (own_later (unhide Q7) hb8)
  have B48 := hide ((unhide B47).trans (hb8.mono (unhide B47).size))
  have z78 : w7.heap.size ≤ w8.heap.size := hb8.size
  clear hb8 H7 O7 R7 P7 Q7 B47
  go_wp2_with fail
  refine (toPairS_any a n c ps _ ((unhide HR).mono (by omega) PairV.len (unhide H8)) hn).mono ?_
  rintro e w9 ⟨g9, rfl, hr9, hb9, hg9, hz9⟩
  have H9 := hide ((unhide H8).trans (hb9.mono (unhide H8).size))
  have O9 := hide ((unhide O8).later hb9)
  have R9 := hide ((unhide R8).mono (by omega) PairV.len hb9)
  have T9 := hide hr9
  have P9 := hide (own_later (unhide P8) hb9)
  have Q9 := hide (own_later (unhide Q8) hb9)
  have B49 := hide ((unhide B48).trans (hb9.mono (unhide B48).size))
  have z89 : w8.heap.size ≤ w9.heap.size := hb9.size
  clear hb9 hr9 hg9 hz9 H8 O8 R8 P8 Q8 B48
  go_wp2_with fail
  refine (eqPairS_same _ n n _ n ps w9 (unhide R9) (unhide T9) hn).mono ?_
  rintro e w10 ⟨rfl, hb10⟩
  have H10 := hide ((unhide H9).trans (hb10.mono (unhide H9).size))
  have O10 := hide ((unhide O9).later hb10)
  have P10 := hide (own_later (unhide P9) hb10)
  have Q10 := hide (own_later (unhide Q9) hb10)
  have B410 := hide ((unhide B49).trans (hb10.mono (unhide B49).size))
  have z910 : w9.heap.size ≤ w10.heap.size := hb10.size
  clear hb10 H9 O9 R9 T9 P9 Q9 B49
  go_wp2_with fail
  refine (toIntS_any a' n' c' l _ ((unhide HR').mono (unhide H10)) hn').mono ?_
  rintro e w11 ⟨rfl, ho11, hb11⟩
  have H11 := hide ((unhide H10).trans (hb11.mono (unhide H10).size))
  have O11 := hide ((unhide O10).later hb11)
  have P11 := hide (own_later (unhide P10) hb11)
  have Q11 := hide (own_later (unhide Q10) hb11)
  have T11 := hide (Rd.of_owns ho11)
  have B411 := hide ((unhide B410).trans (hb11.mono (unhide B410).size))
  have z1011 : w10.heap.size ≤ w11.heap.size := hb11.size
  clear hb11 ho11 H10 O10 P10 Q10 B410
  go_wp2_with fail
  refine (eqIntS_same _ n' n' _ n' l w11 (Rd.of_owns (unhide P11)) (unhide T11) hn').mono ?_
  rintro e w12 ⟨rfl, hb12⟩
  have H12 := hide ((unhide H11).trans (hb12.mono (unhide H11).size))
  have O12 := hide ((unhide O11).later hb12)
  have P12 := hide (own_later (unhide P11) hb12)
  have Q12 := hide (own_later (unhide Q11) hb12)
  have B412 := hide ((unhide B411).trans (hb12.mono (unhide B411).size))
  have z1112 : w11.heap.size ≤ w12.heap.size := hb12.size
  clear hb12 H11 O11 P11 Q11 T11 B411
  go_wp2_with fail
  refine (markPairS_any w4.heap.size w4.heap.size n n 1 L5 w12 (unhide Q12) (by omega) (by omega)).mono ?_
  rintro e w13 ⟨rfl, hg13⟩
  have H13 := hide ((unhide H12).grown hg13 (by omega) (fun b hb => by injection hb with hb; omega))
  have O13 := hide ((unhide O12).kept hg13 (by omega))
  have P13 := hide ((unhide P12).kept hg13 (Or.inr (by intro e; simp [Value.ownBlock] at e; omega)))
  have B413 := hide ((unhide B412).grown hg13 (by omega) (fun b hb => by injection hb with hb; omega))
  have z1213 : w12.heap.size ≤ w13.heap.size := hg13.size
  clear hg13 H12 O12 P12 Q12 B412
  generalize hK1 : 1 + 2 * n = K1
  go_wp2_with fail
  refine (markIntS_any w5.heap.size w5.heap.size n' n' K1 l w13 (unhide P13) (by omega) (by omega)).mono ?_
  rintro e w14 ⟨rfl, ho14, hg14⟩
  have H14 := hide ((unhide H13).grown hg14 (by omega) (fun b hb => by injection hb with hb; omega))
  have O14 := hide ((unhide O13).kept hg14 (by omega))
  have B414 := hide ((unhide B413).grown hg14 (by omega) (fun b hb => by injection hb with hb; omega))
  have z1314 : w13.heap.size ≤ w14.heap.size := hg14.size
  clear hg14 ho14 H13 O13 P13 B413
  generalize hK2 : K1 + n' = K2
  have hneg2 : ¬ ((K2 : Nat) : Int) < 0 := by omega
  go_wp2_with fail
  refine (eqIntSS_same _ xs7.length cap7 _ cap4 (groupsL ps l) w14 (by have := (unhide O14).read; rw [unhide G7] at this; exact this) ((unhide W4).mono (unhide B414)) (by omega) (unhide S7)).mono ?_
  rintro e w15 ⟨rfl, hb15⟩
  have H15 := hide ((unhide H14).trans (hb15.mono (unhide H14).size))
  have O15 := hide ((unhide O14).later hb15)
  have B415 := hide ((unhide B414).trans (hb15.mono (unhide B414).size))
  have z1415 : w14.heap.size ≤ w15.heap.size := hb15.size
  clear hb15 H14 O14 B414
  go_wp2_with fail
  refine (markIntSS_any w6.heap.size g7 cap7 1 xs7 w15 (unhide O15) (by omega) (by omega) (by omega) (by omega)).mono ?_
  rintro e w16 ⟨rfl, ho16, hb16⟩
  have H16 := hide ((unhide H15).trans (hb16.mono (by omega)))
  have O16 := hide ho16
  have B416 := hide ((unhide B415).trans (hb16.mono (by omega)))
  have z1516 : w15.heap.size ≤ w16.heap.size := hb16.size
  clear hb16 ho16 H15 O15 B415
  generalize hT : 1 + totR xs7 = T
  have HT := hide hT
  clear hT
  have hneg : ¬ ((T : Nat) : Int) < 0 := by omega
  have hne : (((T : Nat) : Int) != ((T : Nat) : Int)) = false := by simp
  go_wp2_with fail
  refine (heldIntSS_any w6.heap.size g7 cap7 1 xs7 w16 (unhide O16) (by omega) (by omega) (by omega)).mono ?_
  rintro e w17 ⟨rfl, hw⟩
  subst w17
  rw [unhide HT]
  go_wp2_with fail
  refine (toPairS_any a n c ps _ ((unhide HR).mono (by omega) PairV.len (unhide H16)) hn).mono ?_
  rintro e w18 ⟨g18, rfl, hr18, hb18, hg18, hz18⟩
  have H18 := hide ((unhide H16).trans (hb18.mono (unhide H16).size))
  have O18 := hide ((unhide O16).later hb18)
  have B418 := hide ((unhide B416).trans (hb18.mono (unhide B416).size))
  have R18 := hide hr18
  clear hr18 hb18 hg18 hz18 H16 O16 B416
  go_wp2_with fail
  refine (toIntS_any a' n' c' l _ ((unhide HR').mono (unhide H18)) hn').mono ?_
  rintro e w19 ⟨rfl, ho19, hb19⟩
  have H19 := hide ((unhide H18).trans (hb19.mono (unhide H18).size))
  have O19 := hide ((unhide O18).later hb19)
  have B419 := hide ((unhide B418).trans (hb19.mono (unhide B418).size))
  have R19 := hide ((unhide R18).mono (by omega) PairV.len hb19)
  have S19 := hide (Rd.of_owns ho19)
  clear ho19 hb19 H18 O18 B418 R18
  go_wp2_with fail
  refine (groups_any _ n n ps _ n' n' l w19 (unhide R19) (unhide S19) (by omega) (by omega)).mono ?_
  rintro e w20 ⟨g20, cap20, xs20, rfl, ho20, hg20, hb20⟩
  have H20 := hide ((unhide H19).trans (hb20.mono (unhide H19).size))
  have O20 := hide ((unhide O19).later hb20)
  have B420 := hide ((unhide B419).trans (hb20.mono (unhide B419).size))
  have hlen : xs20.length = xs7.length := by rw [← List.length_map (f := RowV.l), hg20, ← unhide G7, List.length_map]
  have R20 : Hid (Rd2 w20 (some ⟨g20, 0, none⟩) xs7.length (groupsL ps l)) := by have := ho20.read; rw [hg20, hlen] at this; exact this
  rw [hlen]
  clear ho20 hg20 hb20 H19 O19 B419 R19 S19 hlen
  go_wp2_with fail
  refine (eqIntSS_same _ xs7.length cap20 _ cap4 (groupsL ps l) w20 (unhide R20) ((unhide W4).mono (unhide B420)) (by omega) (unhide S7)).mono ?_
  rintro e w21 ⟨rfl, hb21⟩
  have H21 := hide ((unhide H20).trans (hb21.mono (unhide H20).size))
  have O21 := hide ((unhide O20).later hb21)
  clear hb21 H20 O20 B420 R20
  go_wp2_with fail
  refine (heldIntSS_any w6.heap.size g7 cap7 1 xs7 w21 (unhide O21) (by omega) (by omega) (by omega)).mono ?_
  rintro e w22 ⟨rfl, hw⟩
  subst w22
  rw [unhide HT]
  go_wp2_with fail
  go_ret
  exact ⟨rfl, unhide H21⟩
end Go.Proofs.Ytmjohalblppgiab
