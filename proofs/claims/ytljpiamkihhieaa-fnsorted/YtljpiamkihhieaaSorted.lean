/- laws.FnSorted: what is sorted is there once, in order. -/
import Derived.Test.YtljpiamkihhieaaDrawKeys
import Derived.Test.YtljpiamkihhieaaSortImplUp
import Derived.Test.YtljpiamkihhieaaSortImplDown
import Derived.Test.YtljpiamkihhieaaMergeWalk
namespace Go.Proofs.Ytljpiamkihhieaa
open Go.RowKit

set_option maxHeartbeats 400000 in
theorem drawSortUp_any (a : Option Addr) (n c : Nat) (zs : List Int) (w : World) (hr : RdB w a n zs) (hn : n ≤ 1048576) :
    Calls Try.prog 5 #[.slice a n c] w fun e w' => ∃ (g cap : Nat) (ks : List Int), e = .returned (.slice (some ⟨g, 0, none⟩) ks.length cap) ∧ ks.length ≤ 9 ∧
      w'.ownsRow w.heap.size 3 1 (.slice (some ⟨g, 0, none⟩) ks.length cap) ks.length (ks.map (Value.int .i64)) ∧ Below w.heap.size w w' := by
  have HR := hide hr
  clear hr
  go_enter Try.func5, Try.ntmps5
  go_wp2_with fail
  refine (l1New_any a n c zs w HR.out hn ?_).mono ?_
  · intro h0 x hx
    obtain ⟨b, off, ha, hc, _⟩ := HR.out.2 0 h0
    rw [hx] at ha
    cases ha
    exact World.block_lt_of_cell? w _ hc
  rintro e w1 ⟨rfl, hc1, hb1⟩
  have HC := hide hc1
  have HB := hide hb1
  have hsz := hb1.size
  clear hc1 hb1
  go_wp2_with fail
  refine (l1Keys_any w.heap.size a n c zs w1 HC.out).mono ?_
  rintro e w2 ⟨g, cap, ks, rfl, hl, ho, hg⟩
  have HO := hide ho
  have HB2 := hide (HB.out.grown hg hsz (by intro k hk; cases hk; exact Nat.le_refl _))
  clear ho hg
  go_wp2
  go_ret
  exact ⟨g, cap, ks, rfl, hl, own_less HO.out hsz, HB2.out⟩

set_option maxHeartbeats 400000 in
theorem sameInts_same (a : Option Addr) (n c : Nat) (a' : Option Addr) (c' : Nat) (zs : List Int) (w : World) (hr : Rd w a n zs) (hr' : Rd w a' n zs) (hn : n ≤ 1048576) :
    Calls Try.prog 8 #[.slice a n c, .slice a' n c'] w fun e w' => e = .returned (.bool true) ∧ Below w.heap.size w w' := by
  have hne : ((n : Int) != (n : Int)) = false := by simp
  go_enter Try.func8, Try.ntmps8
  go_wp2
  go_loopw [5] (fun i wr => ∃ k : Nat, k ≤ n ∧ i = .int .i64 k ∧ Below w.heap.size w wr) (fun i _ => n - (intOf i).toNat)
  case atStart => exact ⟨0, Nat.zero_le _, rfl, Below.refl _ _⟩
  case round =>
    obtain ⟨k, hk, rfl, hbel⟩ := hrel
    by_cases hlt : k < n
    · obtain ⟨b, off, rfl, hc⟩ := hr.2 k hlt
      obtain ⟨b', off', rfl, hc'⟩ := hr'.2 k hlt
      have hc1 : wr.cell? ⟨b, off + k, none⟩ = some (.int .i64 (zs.getD k 0)) := (hbel.cell (World.block_lt_of_cell? w _ hc)).trans hc
      have hc2 : wr.cell? ⟨b', off' + k, none⟩ = some (.int .i64 (zs.getD k 0)) := (hbel.cell (World.block_lt_of_cell? w _ hc')).trans hc'
      clear hc hc'
      go_wp2
      go_quiet (fail)
      go_wp2
      go_roundw
      case rel => exact ⟨k + 1, by omega, by go_num, below_drewN hbel _⟩
      case measure => simp [intOf]; omega
    · go_wp2
      go_ret
      exact ⟨rfl, hbel⟩

theorem count_step (zs : List Int) (k : Nat) (h : k < zs.length) (x : Int) : ((zs.take (k + 1)).count x : Int) = (zs.take k).count x + if zs.getD k 0 = x then 1 else 0 := by
  rw [List.take_succ_eq_append_getElem h, List.count_append]
  have e : zs.getD k 0 = zs[k] := by simp [h]
  rw [e]
  by_cases hx : zs[k] = x
  · simp [hx]
  · simp [hx]
theorem ret_i {a b : Int} (h : a = b) : Ending.returned (.int .i64 a) = .returned (.int .i64 b) := by rw [h]

set_option maxHeartbeats 400000 in
theorem times_any (a : Option Addr) (n c : Nat) (zs : List Int) (x : Int) (w : World) (hr : Rd w a n zs) (hn : n ≤ 1048576) :
    Calls Try.prog 11 #[.slice a n c, .int .i64 x] w fun e w' => e = .returned (.int .i64 (zs.count x : Int)) ∧ w' = w := by
  go_enter Try.func11, Try.ntmps11
  go_wp2
  go_loop [5, 6] (fun t i => ∃ k : Nat, k ≤ n ∧ i = .int .i64 (k : Int) ∧ t = .int .i64 ((zs.take k).count x : Int)) (fun _ i => n - (intOf i).toNat)
  case atStart => exact ⟨0, Nat.zero_le _, rfl, by simp⟩
  case round =>
    obtain ⟨k, hk, rfl, rfl⟩ := hrel
    have hcl : (zs.take k).count x ≤ k := Nat.le_trans (List.count_le_length) (List.length_take_le _ _)
    by_cases hlt : k < n
    · obtain ⟨b, off, rfl, hc⟩ := hr.2 k hlt
      have HS := hide (count_step zs k (by have := hr.1; omega) x)
      generalize zs.getD k 0 = y at *
      generalize (zs.take k).count x = cnt at *
      by_cases hxy : y = x
      · have hb : (y == x) = true := by simp [hxy]
        have HX := hide hxy
        clear hxy
        go_wp2
        go_round
        case rel => exact ⟨k + 1, by omega, by go_num, by rw [HS.out, if_pos HX.out]⟩
        case measure => simp [intOf]; omega
      · have hb : (y == x) = false := by simp [hxy]
        have HX := hide hxy
        clear hxy
        go_wp2
        go_round
        case rel => exact ⟨k + 1, by omega, by go_num, by rw [HS.out, if_neg HX.out]; go_num⟩
        case measure => simp [intOf]; omega
    · have e : zs.take k = zs := List.take_of_length_le (by have := hr.1; omega)
      have HE := hide e
      clear e
      go_wp2
      go_ret
      exact ⟨ret_i (by rw [HE.out]), rfl⟩

theorem count_range (n i : Nat) : (ints (List.range n)).count (i : Int) = if i < n then 1 else 0 := by
  induction n with
  | zero => simp [ints]
  | succ n ih =>
    have e : ints (List.range (n + 1)) = ints (List.range n) ++ [(n : Int)] := by simp [ints, List.range_succ]
    rw [e, List.count_append, ih]
    by_cases h : n = i
    · subst h; simp
    · have h2 : ¬ (n : Int) = (i : Int) := by omega
      have h3 : ([(n : Int)]).count (i : Int) = 0 := by simp [h2]
      rw [h3]
      by_cases h4 : i < n
      · rw [if_pos h4, if_pos (by omega)]
      · rw [if_neg h4, if_neg (by omega)]
theorem count_one (keys : List Int) (dn : Bool) (n i : Nat) (h : i < n) : (ints (sortP keys dn (List.range n))).count (i : Int) = 1 := by
  have hp := sortP_perm keys dn (List.range n)
  have : (ints (sortP keys dn (List.range n))).count (i : Int) = (ints (List.range n)).count (i : Int) := (hp.map _).count_eq _
  rw [this, count_range, if_pos h]

theorem adj {keys : List Int} {dn : Bool} {F : List Nat} (h : F.Pairwise (bef keys dn)) (i : Nat) (hi : i + 1 < F.length) : bef keys dn F[i] F[i + 1] :=
  List.pairwise_iff_getElem.1 h i (i + 1) (by omega) hi (by omega)
theorem bef_up {keys : List Int} {x y : Nat} (h : bef keys false x y) : keys.getD x 0 < keys.getD y 0 ∨ (keys.getD x 0 = keys.getD y 0 ∧ x < y) := by
  unfold bef lts key at h
  simp only [Bool.false_eq_true, if_false, decide_eq_true_eq, decide_eq_false_iff_not] at h
  omega
theorem bef_down {keys : List Int} {x y : Nat} (h : bef keys true x y) : keys.getD y 0 < keys.getD x 0 ∨ (keys.getD x 0 = keys.getD y 0 ∧ x < y) := by
  unfold bef lts key at h
  simp only [if_true, decide_eq_true_eq, decide_eq_false_iff_not] at h
  omega

set_option maxRecDepth 100000 in
set_option maxHeartbeats 6400000 in
theorem law_sorted (a : Option Addr) (n c : Nat) (zs : List Int) (w : World) (hr : RdB w a n zs) (hm : n ≤ maxLen) :
    Calls Try.prog 3 #[.slice a n c] w fun e w' => e = .returned (.bool true) ∧ Below w.heap.size w w' := by
  unfold maxLen at hm
  by_cases hn : n ≤ 1048576
  · have hgt : ¬ (1048576 : Int) < (n : Int) := by omega
    have HR := hide hr
    clear hr
    go_enter Try.func3, Try.ntmps3
    go_wp2_with (first | (go_at_call 4; go_in) | fail)
    refine (drawSortUp_any a n c zs w HR.out hn).mono ?_
    rintro e w1 ⟨g, cap, ks, rfl, hl9, ho1, hb1⟩
    have RK1 := hide (Rd.of_owns ho1)
    have B1 := hide hb1
    have hglt := (ho1.lt g rfl).2
    clear ho1 hb1
    have hcu := fun i h => count_one ks false ks.length i h
    have hcd := fun i h => count_one ks true ks.length i h
    have hsu := sortP_sorted ks false (List.range ks.length) List.nodup_range
    have hsd := sortP_sorted ks true (List.range ks.length) List.nodup_range
    have hlu : (sortP ks false (List.range ks.length)).length = ks.length := by rw [(sortP_perm ks false _).length_eq, List.length_range]
    have hld : (sortP ks true (List.range ks.length)).length = ks.length := by rw [(sortP_perm ks true _).length_eq, List.length_range]
    have hmu : ∀ p ∈ sortP ks false (List.range ks.length), p < ks.length := fun p hp => List.mem_range.1 ((sortP_perm ks false _).mem_iff.1 hp)
    have hmd : ∀ p ∈ sortP ks true (List.range ks.length), p < ks.length := fun p hp => List.mem_range.1 ((sortP_perm ks true _).mem_iff.1 hp)
    have IU := hide (implSortUp_any (some ⟨g, 0, none⟩) ks.length cap ks)
    have ID := hide (implSortDown_any (some ⟨g, 0, none⟩) ks.length cap ks)
    have SU := hide (specSortUp_any (some ⟨g, 0, none⟩) ks.length cap ks)
    have SD := hide (specSortDown_any (some ⟨g, 0, none⟩) ks.length cap ks)
    generalize sortP ks false (List.range ks.length) = U at *
    generalize sortP ks true (List.range ks.length) = D at *
    generalize hkl : ks.length = m at *
    have HKL := hide hkl
    have HCU := hide hcu
    have HCD := hide hcd
    have HSU := hide hsu
    have HSD := hide hsd
    have HLU := hide hlu
    have HLD := hide hld
    have HMU := hide hmu
    have HMD := hide hmd
    clear hkl hcu hcd hsu hsd hlu hld hmu hmd
    go_wp2_with fail
    refine (IU.out w1 RK1.out ?_ (by omega)).mono ?_
    · intro x hx; cases hx; exact hglt
    rintro e w2 ⟨rfl, ho2, hb2⟩
    have RU2 := hide (Rd.of_cells ho2)
    have RK2 := hide (RK1.out.mono hb2)
    have B2 := hide (B1.out.trans (hb2.mono B1.out.size))
    have hs2 := hb2.size
    clear ho2 hb2 RK1 B1
    go_wp2_with fail
    refine (ID.out w2 RK2.out ?_ (by omega)).mono ?_
    · intro x hx; cases hx; exact Nat.lt_of_lt_of_le hglt hs2
    rintro e w3 ⟨rfl, ho3, hb3⟩
    have RD3 := hide (Rd.of_cells ho3)
    have RU3 := hide (RU2.out.mono hb3)
    have RK3 := hide (RK2.out.mono hb3)
    have B3 := hide (B2.out.trans (hb3.mono B2.out.size))
    clear ho3 hb3 RU2 RK2 B2
    generalize w1.heap.size + 1 = gU at *
    generalize w2.heap.size + 1 = gD at *
    go_wp2_with fail
    refine (SU.out w3 RK3.out (by omega)).mono ?_
    rintro e w4 ⟨g4, c4, rfl, ho4, hb4⟩
    have R4 := hide (Rd.of_cells ho4)
    have RD4 := hide (RD3.out.mono hb4)
    have RU4 := hide (RU3.out.mono hb4)
    have RK4 := hide (RK3.out.mono hb4)
    have B4 := hide (B3.out.trans (hb4.mono B3.out.size))
    clear ho4 hb4 RD3 RU3 RK3 B3
    go_wp2_with fail
    refine (sameInts_same _ m m _ c4 (ints U) w4 RU4.out R4.out (by omega)).mono ?_
    rintro e w5 ⟨rfl, hb5⟩
    have RD5 := hide (RD4.out.mono hb5)
    have RU5 := hide (RU4.out.mono hb5)
    have RK5 := hide (RK4.out.mono hb5)
    have B5 := hide (B4.out.trans (hb5.mono B4.out.size))
    clear hb5 RD4 RU4 RK4 B4 R4
    go_wp2_with fail
    refine (SD.out w5 RK5.out (by omega)).mono ?_
    rintro e w6 ⟨g6, c6, rfl, ho6, hb6⟩
    have R6 := hide (Rd.of_cells ho6)
    have RD6 := hide (RD5.out.mono hb6)
    have RU6 := hide (RU5.out.mono hb6)
    have RK6 := hide (RK5.out.mono hb6)
    have B6 := hide (B5.out.trans (hb6.mono B5.out.size))
    clear ho6 hb6 RD5 RU5 RK5 B5
    go_wp2_with fail
    refine (sameInts_same _ m m _ c6 (ints D) w6 RD6.out R6.out (by omega)).mono ?_
    rintro e w7 ⟨rfl, hb7⟩
    have RD7 := hide (RD6.out.mono hb7)
    have RU7 := hide (RU6.out.mono hb7)
    have RK7 := hide (RK6.out.mono hb7)
    have B7 := hide (B6.out.trans (hb7.mono B6.out.size))
    clear hb7 RD6 RU6 RK6 B6 R6
    have hne : ((m : Int) != (m : Int)) = false := by simp
    go_wp2_with fail
    go_loop [6] (fun i => ∃ k : Nat, k ≤ m ∧ i = .int .i64 (k : Int)) (fun i => m - (intOf i).toNat)
    case atStart => exact ⟨0, Nat.zero_le _, rfl⟩
    case round =>
      obtain ⟨k, hk, rfl⟩ := hrel
      by_cases hlt : k < m
      · have t1 : (k : Int) < (m : Int) := by omega
        have e1 := HCU.out k hlt
        have e2 := HCD.out k hlt
        have E1 := hide e1
        have E2 := hide e2
        have hone : (((1 : Nat) : Int) != 1) = false := by simp
        clear e1 e2
        go_wp2_with fail
        refine (times_any _ m m (ints U) (k : Int) w7 RU7.out (by omega)).mono ?_
        rintro e w7' ⟨rfl, rfl⟩
        rw [E1.out]
        go_wp2_with fail
        refine (times_any _ m m (ints D) (k : Int) _ RD7.out (by omega)).mono ?_
        rintro e w7' ⟨rfl, rfl⟩
        rw [E2.out]
        go_wp2
        go_round
        case rel => exact ⟨k + 1, by omega, by go_num⟩
        case measure => simp [intOf]; omega
      · have t1 : ¬ (k : Int) < (m : Int) := by omega
        go_wp2
        go_loopw [7] (fun i wr => ∃ t : Nat, 1 ≤ t ∧ (t ≤ m ∨ t = 1) ∧ i = .int .i64 (t : Int) ∧ Below w7.heap.size w7 wr) (fun i _ => m - (intOf i).toNat)
        case atStart => exact ⟨1, Nat.le_refl _, Or.inr rfl, rfl, Below.refl _ _⟩
        case round =>
          obtain ⟨t, ht1, htm, rfl, hbr⟩ := hrel
          by_cases hq : t < m
          · obtain ⟨q, rfl⟩ : ∃ q, t = q + 1 := ⟨t - 1, by omega⟩
            have hq1 : q + 1 < U.length := by rw [HLU.out]; exact hq
            have hq2 : q + 1 < D.length := by rw [HLD.out]; exact hq
            have t2 : ((q + 1 : Nat) : Int) < (m : Int) := by omega
            have t3 : ((q + 1 : Nat) : Int) - 1 = (q : Int) := by omega
            have cu1 := (RU7.out.mono hbr).cell (q + 1) hq hq1
            have cu0 := (RU7.out.mono hbr).cell q (by omega) (by omega)
            have cd1 := (RD7.out.mono hbr).cell (q + 1) hq hq2
            have cd0 := (RD7.out.mono hbr).cell q (by omega) (by omega)
            rw [Nat.zero_add] at cu1 cu0 cd1 cd0
            have bu := bef_up (adj HSU.out q hq1)
            have bd := bef_down (adj HSD.out q hq2)
            obtain ⟨b1, o1, e1, k1⟩ := (RK7.out.mono hbr).2 U[q] (HMU.out _ (List.getElem_mem (by omega)))
            obtain ⟨b2, o2, e2, k2⟩ := (RK7.out.mono hbr).2 U[q + 1] (HMU.out _ (List.getElem_mem hq1))
            obtain ⟨b3, o3, e3, k3⟩ := (RK7.out.mono hbr).2 D[q] (HMD.out _ (List.getElem_mem (by omega)))
            obtain ⟨b4, o4, e4, k4⟩ := (RK7.out.mono hbr).2 D[q + 1] (HMD.out _ (List.getElem_mem hq2))
            cases e1; cases e2; cases e3; cases e4
            have m1 := HMU.out _ (List.getElem_mem (show q < U.length by omega))
            have m2 := HMU.out _ (List.getElem_mem hq1)
            have m3 := HMD.out _ (List.getElem_mem (show q < D.length by omega))
            have m4 := HMD.out _ (List.getElem_mem hq2)
            generalize ks.getD U[q] 0 = ku0 at *
            generalize ks.getD U[q + 1] 0 = ku1 at *
            generalize ks.getD D[q] 0 = kd0 at *
            generalize ks.getD D[q + 1] 0 = kd1 at *
            generalize U[q] = u0 at *
            generalize U[q + 1] = u1 at *
            generalize D[q] = d0 at *
            generalize D[q + 1] = d1 at *
            rw [Nat.zero_add] at k1 k2 k3 k4
            have hqn : q + 1 < m := hq
            rcases bu with bu | ⟨bu, bu'⟩ <;> rcases bd with bd | ⟨bd, bd'⟩
            · have g1 : decide (ku1 < ku0) = false := by simp; omega
              have g2 : (ku1 == ku0) = false := by simp; omega
              have g3 : decide (kd0 < kd1) = false := by simp; omega
              have g4 : (kd1 == kd0) = false := by simp; omega
              have HBR := hide hbr
              clear hbr
              go_wp2
              go_quiet (fail)
              go_wp2
              go_quiet (fail)
              go_wp2
              go_roundw
              case rel => exact ⟨q + 1 + 1, by omega, by omega, by go_num, below_drewN HBR.out _⟩
              case measure => simp [intOf]; omega
            · have g1 : decide (ku1 < ku0) = false := by simp; omega
              have g2 : (ku1 == ku0) = false := by simp; omega
              subst bd
              have g3 : decide (kd0 < kd0) = false := by simp
              have g4 : (kd0 == kd0) = true := by simp
              have g6 : decide ((d1 : Int) < (d0 : Int)) = false := by simp; omega
              have HBR := hide hbr
              clear hbr
              go_wp2
              go_quiet (fail)
              go_wp2
              go_quiet (fail)
              go_wp2
              go_roundw
              case rel => exact ⟨q + 1 + 1, by omega, by omega, by go_num, below_drewN HBR.out _⟩
              case measure => simp [intOf]; omega
            · subst bu
              have g1 : decide (ku0 < ku0) = false := by simp
              have g2 : (ku0 == ku0) = true := by simp
              have g5 : decide ((u1 : Int) < (u0 : Int)) = false := by simp; omega
              have g3 : decide (kd0 < kd1) = false := by simp; omega
              have g4 : (kd1 == kd0) = false := by simp; omega
              have HBR := hide hbr
              clear hbr
              go_wp2
              go_quiet (fail)
              go_wp2
              go_quiet (fail)
              go_wp2
              go_roundw
              case rel => exact ⟨q + 1 + 1, by omega, by omega, by go_num, below_drewN HBR.out _⟩
              case measure => simp [intOf]; omega
            · subst bu
              have g1 : decide (ku0 < ku0) = false := by simp
              have g2 : (ku0 == ku0) = true := by simp
              have g5 : decide ((u1 : Int) < (u0 : Int)) = false := by simp; omega
              subst bd
              have g3 : decide (kd0 < kd0) = false := by simp
              have g4 : (kd0 == kd0) = true := by simp
              have g6 : decide ((d1 : Int) < (d0 : Int)) = false := by simp; omega
              have HBR := hide hbr
              clear hbr
              go_wp2
              go_quiet (fail)
              go_wp2
              go_quiet (fail)
              go_wp2
              go_roundw
              case rel => exact ⟨q + 1 + 1, by omega, by omega, by go_num, below_drewN HBR.out _⟩
              case measure => simp [intOf]; omega
          · have t2 : ¬ (t : Int) < (m : Int) := by omega
            go_wp2
            go_ret
            exact ⟨rfl, B7.out.trans (hbr.mono B7.out.size)⟩
  · have hgt : (1048576 : Int) < (n : Int) := by omega
    go_enter Try.func3, Try.ntmps3
    go_wp2
    go_ret
    exact ⟨rfl, Below.refl _ _⟩
end Go.Proofs.Ytljpiamkihhieaa
