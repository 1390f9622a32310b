/- laws.FnGroups: each kind is in one group; in a group all may lie beside all; the first of a later group may not with all of an earlier one. -/
import Derived.Test.YtmjohalblppgiaaLawTransG
import Derived.Test.YtmjohalblppgiaaGroupOf
import Derived.Test.YtmjohalblppgiaaHeldTo
namespace Go.Proofs.Ytmjohalblppgiaa
open Go.RowKit
set_option linter.unusedVariables false
set_option linter.unusedSimpArgs false

set_option maxHeartbeats 800000 in
theorem times_any (a : Option Addr) (n c : Nat) (zs : List Int) (x : Int) (w : World) (hr : Rd w a n zs) (hn : n ≤ 1048600) :
    Calls Try.prog 14 #[.slice a n c, .int .i64 x] w fun e w' => ∃ t : Int, e = .returned (.int .i64 t) ∧ decide (0 < t) = hasI zs x ∧ w' = w := by
  go_enter Try.func14, Try.ntmps14
  go_wp2
  go_loop [5, 6] (fun t i => ∃ (k : Nat) (tv : Int), k ≤ n ∧ i = .int .i64 k ∧ t = .int .i64 tv ∧ 0 ≤ tv ∧ tv ≤ k ∧ decide (0 < tv) = (zs.take k).any (fun y => y == x)) (fun _ i => n - (intOf i).toNat)
  case atStart => exact ⟨0, 0, Nat.zero_le _, rfl, rfl, by omega, by omega, rfl⟩
  case round =>
    obtain ⟨k, tv, hk, rfl, rfl, h0, h1, hd⟩ := hrel
    have HD := hide hd
    clear hd
    by_cases hlt : k < n
    · obtain ⟨b, off, rfl, hc⟩ := hr.2 k hlt
      have HS := hide (take_any_step zs (fun y => y == x) k (by rw [hr.1]; exact hlt))
      rw [show zs.getD k 0 = zs.getD k default from rfl] at hc
      generalize zs.getD k default = q at hc HS
      clear hr
      cases e1 : (q == x)
      · go_wp2
        go_round
        case rel => exact ⟨k + 1, tv, by omega, by go_num, rfl, h0, by omega, by rw [unhide HS, e1, Bool.or_false]; exact unhide HD⟩
        case measure => simp [intOf]; omega
      · have HP : Hid (decide (0 < tv + 1) = true) := hide (decide_eq_true (by omega))
        go_wp2
        go_round
        case rel => exact ⟨k + 1, tv + 1, by omega, by go_num, by go_num, by omega, by omega, by rw [unhide HS, e1, Bool.or_true]; exact unhide HP⟩
        case measure => simp [intOf]; omega
    · have HE : Hid (zs.take k = zs) := List.take_of_length_le (by rw [hr.1]; omega)
      go_wp2
      go_ret
      exact ⟨tv, rfl, by have := unhide HD; rw [unhide HE] at this; exact this, rfl⟩
set_option maxRecDepth 100000 in
set_option maxHeartbeats 9000000 in
theorem law_groupsG (a : Option Addr) (n c : Nat) (zs : List Int) (w : World) (hr : RdB w a n zs) (hm : n ≤ maxLen) :
    Calls Try.prog 3 #[.slice a n c] w fun e w' => e = .returned (.bool true) ∧ Below w.heap.size w w' := by
  unfold maxLen at hm
  by_cases hn : n ≤ 1048576
  case neg =>
    have hgt : (1048576 : Int) < (n : Int) := by omega
    go_enter Try.func3, Try.ntmps3
    go_wp2_with (first | (go_at_call 9; go_in) | fail)
    go_ret
    exact ⟨rfl, Below.refl _ _⟩
  have hgt : ¬ (1048576 : Int) < (n : Int) := by omega
  have HR := hide hr
  clear hr
  go_enter Try.func3, Try.ntmps3
  go_wp2_with (first | (go_at_call 9; go_in) | fail)
  refine (drawGroups_any a n c zs w (unhide HR) hn).mono ?_
  rintro e w1 ⟨b, off, m, cap, g, m2, cap2, ps, l, rfl, hm17, hm5, hr1, hl1, hb1⟩
  have R1 := hide hr1
  have L1 := hide hl1
  have B1 := hide hb1
  clear hr1 hl1 hb1
  go_wp2_with fail
  refine (groups_any _ m cap ps _ m2 cap2 l w1 (unhide R1) (unhide L1) (by omega) (by omega)).mono ?_
  rintro e w4 ⟨g4, cap4, xs, rfl, ho4, hg4, hb4⟩
  have O4 := hide ho4
  have G4 := hide hg4
  have B4 := hide hb4
  clear ho4 hg4 hb4
  go_wp2_with fail
  refine (specGroups_any _ m cap ps _ m2 cap2 l w4 ((unhide R1).mono (by omega) PairV.len (unhide B4)) ((unhide L1).mono (unhide B4)) (by omega) (by omega)).mono ?_
  rintro e w5 ⟨g5, cap5, ys, rfl, ho5, hg5, hb5⟩
  have hlen : ys.length = xs.length := by rw [← List.length_map (f := RowV.l), hg5, ← unhide G4, List.length_map]
  have O5 := hide ((unhide O4).later hb5)
  have B5 := hide ((unhide B4).trans (hb5.mono (unhide B4).size))
  rw [hlen]
  have hne : ((xs.length : Int) != (xs.length : Int)) = false := by simp
  have HGB := hide (groupsTo_bnd ps l 4 (Nat.le_refl _))
  rw [groupsTo_four, ← unhide G4] at HGB
  have hx4 : xs.length ≤ 4 := by have := (unhide HGB).1; rwa [List.length_map] at this
  clear ho5 hg5 hb5 hlen B4 O4
  have HFIN : Hid (Below w.heap.size w w5) := (unhide B1).trans ((unhide B5).mono (unhide B1).size)
  have HRL : Hid (∀ i, i < xs.length → (xs.getD i default).l.length ≤ 4) := hide (fun i hi => by
    have := (unhide HGB).row i (by rw [List.length_map]; exact hi)
    rwa [map_getD_l xs i hi] at this)
  have HINV : Hid (GInv ps l (xs.map RowV.l)) := by rw [unhide G4]; exact groups_inv ps l
  have HPW : Hid (∀ i p q, i < xs.length → p < (xs.getD i default).l.length → q < (xs.getD i default).l.length → p ≠ q → besB ps ((xs.getD i default).l.getD p 0) ((xs.getD i default).l.getD q 0) = true) := hide (fun i p q hi h1 h2 h3 => by
    have := (unhide HINV).pw i (by rw [List.length_map]; exact hi) p q (by rw [map_getD_l xs i hi]; exact h1) (by rw [map_getD_l xs i hi]; exact h2) h3
    rwa [map_getD_l xs i hi] at this)
  have HFS : Hid (∀ i k, k < i → i < xs.length → joinsB ps (xs.getD k default).l ((xs.getD i default).l.getD 0 0) = false) := hide (fun i k hki hi => by
    have := (unhide HINV).fst i k hki (by rw [List.length_map]; exact hi)
    rwa [map_getD_l xs i hi, map_getD_l xs k (by omega)] at this)
  have HNE : Hid (∀ i, i < xs.length → 0 < (xs.getD i default).l.length) := hide (fun i hi => by
    have := (unhide HINV).ne i (by rw [List.length_map]; exact hi)
    rwa [map_getD_l xs i hi] at this)
  have RD5 : Hid (Rd2 w5 (some ⟨g4, 0, none⟩) xs.length (xs.map RowV.l)) := (unhide O5).read
  go_wp2_with fail
  go_loop [6] (fun i => ∃ k : Nat, k ≤ 4 ∧ i = .int .i64 k) (fun i => 4 - (intOf i).toNat)
  case atStart => exact ⟨0, by omega, rfl⟩
  case round =>
    obtain ⟨y, hy, rfl⟩ := hrel
    by_cases hlt : y < 4
    case pos =>
      obtain ⟨h1, h2⟩ := groupOf_told ps l y hlt
      rw [← unhide G4] at h1 h2
      rw [List.length_map] at h2
      have H1 := hide h1
      clear h1
      go_wp2_with fail
      refine (groupOf_any _ xs.length cap4 (xs.map RowV.l) (y : Int) w5 (unhide RD5) (by omega) (fun i hi => by have := (unhide HGB).row i (by rw [List.length_map]; exact hi); omega)).mono ?_
      rintro e w6 ⟨rfl, hw⟩
      subst w6
      generalize groupOfI (xs.map RowV.l) (y : Int) = v at H1 h2 ⊢
      go_wp2_with fail
      refine (times_any _ m2 cap2 l (y : Int) w5 ((unhide L1).mono (unhide B5)) (by omega)).mono ?_
      rintro e w6 ⟨u, rfl, hu, hw⟩
      subst w6
      have hge : ¬ (xs.length : Int) ≤ v := by omega
      have HV := unhide H1
      cases hh : hasI l (y : Int)
      · rw [hh] at HV hu
        have hv0 : ¬ 0 ≤ v := of_decide_eq_false HV
        have hu0 : ¬ 0 < u := of_decide_eq_false hu
        clear HV hu H1
        go_wp2_with fail
        go_round
        case rel => exact ⟨y + 1, by omega, by go_num⟩
        case measure => simp [intOf]; omega
      · rw [hh] at HV hu
        have hv0 : 0 ≤ v := of_decide_eq_true HV
        have hu0 : 0 < u := of_decide_eq_true hu
        clear HV hu H1
        go_wp2_with fail
        go_round
        case rel => exact ⟨y + 1, by omega, by go_num⟩
        case measure => simp [intOf]; omega
    clear G4 HGB RD5 HFIN HINV
    go_wp2_with fail
    go_loopw [8] (fun i wr => ∃ k : Nat, k ≤ xs.length ∧ i = .int .i64 k ∧ Below w5.heap.size w5 wr) (fun i _ => xs.length - (intOf i).toNat)
    case atStart => exact ⟨0, by omega, rfl, Below.refl _ _⟩
    case round =>
      obtain ⟨i, hi, rfl, hbel⟩ := hrel
      have HB := hide hbel
      clear hbel
      by_cases hlti : i < xs.length
      case neg =>
        go_wp2_with fail
        go_ret
        exact ⟨rfl, (unhide B1).trans (((unhide B5).trans ((unhide HB).mono (unhide B5).size)).mono (unhide B1).size)⟩
      have hli := (unhide HRL) i hlti
      have HPI := hide (fun p q => (unhide HPW) i p q hlti)
      have HFI := hide (fun k h => (unhide HFS) i k h hlti)
      have hni := (unhide HNE) i hlti
      have HAT := hide (fun W (h : Below w5.heap.size w5 W) => ((unhide O5).later h).at i hlti)
      generalize xs.getD i default = ri at hli HPI HFI hni HAT
      go_wp2_with fail
      go_loopw [9] (fun i' wr => ∃ k' : Nat, k' ≤ 4 ∧ i' = .int .i64 k' ∧ Below w5.heap.size w5 wr) (fun i _ => 4 - (intOf i).toNat)
      case atStart => exact ⟨0, by omega, rfl, unhide HB⟩
      case round =>
        clear HB
        obtain ⟨p, hp, rfl, hbel⟩ := hrel
        have HB := hide hbel
        clear hbel
        obtain ⟨ci, di⟩ := (unhide HAT) _ (unhide HB)
        by_cases hpl : p < ri.l.length
        case pos =>
          have HCI := hide ci
          clear di
          go_wp2_with fail
          go_loopw [10] (fun i' wr => ∃ k' : Nat, k' ≤ 4 ∧ i' = .int .i64 k' ∧ Below w5.heap.size w5 wr) (fun i _ => 4 - (intOf i).toNat)
          case atStart => exact ⟨0, by omega, rfl, unhide HB⟩
          case round =>
            clear HB HCI ci
            obtain ⟨q, hq, rfl, hbel⟩ := hrel
            have HB := hide hbel
            clear hbel
            obtain ⟨ci, di⟩ := (unhide HAT) _ (unhide HB)
            by_cases hql : q < ri.l.length
            case neg =>
              clear di
              go_wp2_with fail
              go_roundw
              case rel => exact ⟨p + 1, by omega, by go_num, unhide HB⟩
              case measure => simp [intOf]; omega
            have dip := di p hpl
            have diq := di q hql
            clear di
            by_cases hpq : p = q
            case pos =>
              subst hpq
              have hpp : ((p : Int) != (p : Int)) = false := by simp
              clear diq
              go_wp2_with fail
              first | go_quiet (fail) | fail
              go_wp2_with fail
              go_roundw
              case rel => exact ⟨p + 1, by omega, by go_num, below_drewN (unhide HB) _⟩
              case measure => simp [intOf]; omega
            have hbes := (unhide HPI) p q hpl hql hpq
            have hpp : ((p : Int) != (q : Int)) = true := by rw [bne_iff_ne]; omega
            generalize ri.l.getD p 0 = xv at dip hbes
            generalize ri.l.getD q 0 = yv at diq hbes
            go_wp2_with fail
            first | go_region_held (fun w' => w'.cell? ⟨g4, i, none⟩ = some (.slice (some ⟨ri.g, 0, none⟩) ri.l.length ri.cap) ∧ w'.cell? ⟨ri.g, p, none⟩ = some (.int .i64 xv) ∧ w'.cell? ⟨ri.g, q, none⟩ = some (.int .i64 yv)) (first | assumption | exact ⟨ci, dip, diq⟩ | go_keep) ((go_at_call 15; go_must (refine (beside_any _ m cap ps xv yv _ (by exact ((unhide R1).mono (by omega) PairV.len (unhide B5)).mono (by omega) PairV.len (unhide HB).drew) (by omega)).mono ?_; rintro e w9 ⟨rfl, hb9⟩; rw [hbes]; have B9 := hide ((unhide HB).drew.trans (hb9.mono (unhide HB).size)); have S9 : w9.cell? ⟨g4, i, none⟩ = some (.slice (some ⟨ri.g, 0, none⟩) ri.l.length ri.cap) ∧ w9.cell? ⟨ri.g, p, none⟩ = some (.int .i64 xv) ∧ w9.cell? ⟨ri.g, q, none⟩ = some (.int .i64 yv) := ⟨keep_cell hb9 ci, keep_cell hb9 dip, keep_cell hb9 diq⟩; clear hb9))) | fail
            all_goals
              go_wp2_with fail
              go_roundw
              case rel => exact ⟨q + 1, by omega, by go_num, unhide B9⟩
              case measure => simp [intOf]; omega
        clear di
        go_wp2_with fail
        go_loopw [11] (fun i' wr => ∃ k' : Nat, k' ≤ i ∧ i' = .int .i64 k' ∧ Below w5.heap.size w5 wr) (fun i' _ => i - (intOf i').toNat)
        case atStart => exact ⟨0, by omega, rfl, unhide HB⟩
        case round =>
          clear HB ci hpl
          obtain ⟨k, hk, rfl, hbel⟩ := hrel
          have HB := hide hbel
          clear hbel
          by_cases hki : k < i
          case neg =>
            go_wp2_with fail
            go_roundw
            case rel => exact ⟨i + 1, by omega, by go_num, unhide HB⟩
            case measure => simp [intOf]; omega
          have hlk := (unhide HRL) k (by omega)
          have HJ := hide ((unhide HFI) k hki)
          have HAK := hide (fun W (h : Below w5.heap.size w5 W) => ((unhide O5).later h).at k (by omega))
          generalize xs.getD k default = rk at hlk HJ HAK
          generalize hfv : ri.l.getD 0 0 = fv at HJ
          have HFV := hide hfv
          clear hfv
          go_wp2_with fail
          go_loopw [12, 13] (fun mv i' wr => ∃ (k' : Nat) (mb : Bool), k' ≤ rk.l.length ∧ i' = .int .i64 k' ∧ mv = .bool mb ∧ mb = (rk.l.take k').all (fun z => besB ps z fv && besB ps fv z) ∧ Below w5.heap.size w5 wr) (fun _ i' _ => rk.l.length - (intOf i').toNat)
          case atStart => exact ⟨0, true, by omega, rfl, rfl, rfl, unhide HB⟩
          case round =>
            clear HB
            obtain ⟨p, mb, hp4, rfl, rfl, hmb, hbel⟩ := hrel
            have HB := hide hbel
            have HMB := hide hmb
            clear hbel hmb
            obtain ⟨ck, dk⟩ := (unhide HAK) _ (unhide HB)
            obtain ⟨ci, di⟩ := (unhide HAT) _ (unhide HB)
            by_cases hpl : p < rk.l.length
            case neg =>
              obtain rfl : p = rk.l.length := by omega
              have hmf : mb = false := by rw [unhide HMB, List.take_length]; exact unhide HJ
              subst hmf
              clear di dk ci
              go_wp2_with fail
              go_roundw
              case rel => exact ⟨k + 1, by omega, by go_num, unhide HB⟩
              case measure => simp [intOf]; omega
            have HST := hide (take_all_step rk.l (fun z => besB ps z fv && besB ps fv z) p hpl)
            have dkp := dk p hpl
            have di0 := di 0 hni
            rw [unhide HFV] at di0
            clear dk di
            rw [show rk.l.getD p 0 = rk.l.getD p default from rfl] at dkp
            generalize rk.l.getD p default = zv at dkp HST
            cases mb
            case false =>
              go_wp2_with fail
              first | go_quiet (fail) | fail
              go_wp2_with fail
              go_roundw
              case rel => exact ⟨p + 1, false, by omega, by go_num, rfl, by rw [unhide HST, ← unhide HMB]; rfl, below_drewN (unhide HB) _⟩
              case measure => simp [intOf]; omega
            have hkx : k < xs.length := by omega
            have hkI : (k : Int) < (xs.length : Int) := by omega
            obtain ⟨u1, hu1⟩ : ∃ u, besB ps zv fv = u := ⟨_, rfl⟩
            obtain ⟨u2, hu2⟩ : ∃ u, besB ps fv zv = u := ⟨_, rfl⟩
            go_wp2_with fail
            refine wp_region_to (S := fun w' => w'.cell? ⟨g4, k, none⟩ = some (.slice (some ⟨rk.g, 0, none⟩) rk.l.length rk.cap) ∧ w'.cell? ⟨rk.g, p, none⟩ = some (.int .i64 zv) ∧ w'.cell? ⟨g4, i, none⟩ = some (.slice (some ⟨ri.g, 0, none⟩) ri.l.length ri.cap) ∧ w'.cell? ⟨ri.g, 0, none⟩ = some (.int .i64 fv)) (T := []) (by kernel_rfl) ⟨ck, dkp, ci, di0⟩ (fun hHeld => ?_)
            refine wpTo_take (i := 0) (v := ?_) rfl (by kernel_rfl) (by kernel_rfl) (by kernel_rfl) (by kernel_rfl) (by kernel_rfl) (fun _ _ _ h => h) (Or.inl ⟨by rfl, ?_⟩) (by assumption) ?_
            rotate_left
            · intro w hSw
              obtain ⟨sA, sB, sC, sD⟩ := hSw
              go_simp <;> with_reducible rfl
            try simp only [Act.put, List.getElem_toArray, List.getElem_cons_zero, List.getElem_cons_succ, List.setIfInBounds_toArray, List.set_cons_zero, List.set_cons_succ]
            refine wpTo_take (i := 1) (v := ?_) rfl (by kernel_rfl) (by kernel_rfl) (by kernel_rfl) (by kernel_rfl) (by kernel_rfl) (fun _ _ _ h => h) (Or.inl ⟨by rfl, ?_⟩) (by assumption) ?_
            rotate_left
            · intro w hSw
              obtain ⟨sA, sB, sC, sD⟩ := hSw
              go_simp <;> with_reducible rfl
            try simp only [Act.put, List.getElem_toArray, List.getElem_cons_zero, List.getElem_cons_succ, List.setIfInBounds_toArray, List.set_cons_zero, List.set_cons_succ]
            refine wpTo_take (i := 2) (v := ?_) rfl (by kernel_rfl) (by kernel_rfl) (by kernel_rfl) (by kernel_rfl) (by kernel_rfl) (fun _ _ _ h => h) (Or.inl ⟨by rfl, ?_⟩) (by assumption) ?_
            rotate_left
            · intro w hSw
              obtain ⟨sA, sB, sC, sD⟩ := hSw
              go_simp <;> with_reducible rfl
            try simp only [Act.put, List.getElem_toArray, List.getElem_cons_zero, List.getElem_cons_succ, List.setIfInBounds_toArray, List.set_cons_zero, List.set_cons_succ]
            refine wpTo_take (i := 3) (v := ?_) rfl (by kernel_rfl) (by kernel_rfl) (by kernel_rfl) (by kernel_rfl) (by kernel_rfl) (fun _ _ _ h => h) (Or.inl ⟨by rfl, ?_⟩) (by assumption) ?_
            rotate_left
            · intro w hSw
              obtain ⟨sA, sB, sC, sD⟩ := hSw
              go_simp <;> with_reducible rfl
            try simp only [Act.put, List.getElem_toArray, List.getElem_cons_zero, List.getElem_cons_succ, List.setIfInBounds_toArray, List.set_cons_zero, List.set_cons_succ]
            refine wpTo_take (i := 4) (v := ?_) rfl (by kernel_rfl) (by kernel_rfl) (by kernel_rfl) (by kernel_rfl) (by kernel_rfl) (fun _ _ _ h => h) (Or.inl ⟨by rfl, ?_⟩) (by assumption) ?_
            rotate_left
            · intro w hSw
              obtain ⟨sA, sB, sC, sD⟩ := hSw
              go_simp <;> with_reducible rfl
            try simp only [Act.put, List.getElem_toArray, List.getElem_cons_zero, List.getElem_cons_succ, List.setIfInBounds_toArray, List.set_cons_zero, List.set_cons_succ]
            refine wpTo_take (i := 5) (v := ?_) rfl (by kernel_rfl) (by kernel_rfl) (by kernel_rfl) (by kernel_rfl) (by kernel_rfl) (fun _ _ _ h => h) (Or.inl ⟨by rfl, ?_⟩) (by assumption) ?_
            rotate_left
            · intro w hSw
              obtain ⟨sA, sB, sC, sD⟩ := hSw
              go_simp <;> with_reducible rfl
            try simp only [Act.put, List.getElem_toArray, List.getElem_cons_zero, List.getElem_cons_succ, List.setIfInBounds_toArray, List.set_cons_zero, List.set_cons_succ]
            refine wpTo_take (i := 6) (v := ?_) rfl (by kernel_rfl) (by kernel_rfl) (by kernel_rfl) (by kernel_rfl) (by kernel_rfl) (fun _ _ _ h => h) (Or.inl ⟨by rfl, ?_⟩) (by assumption) ?_
            rotate_left
            · intro w hSw
              obtain ⟨sA, sB, sC, sD⟩ := hSw
              go_simp <;> with_reducible rfl
            try simp only [Act.put, List.getElem_toArray, List.getElem_cons_zero, List.getElem_cons_succ, List.setIfInBounds_toArray, List.set_cons_zero, List.set_cons_succ]
            refine wpTo_take (i := 7) (v := ?_) rfl (by kernel_rfl) (by kernel_rfl) (by kernel_rfl) (by kernel_rfl) (by kernel_rfl) (fun _ _ _ h => h) (Or.inl ⟨by rfl, ?_⟩) (by assumption) ?_
            rotate_left
            · intro w hSw
              obtain ⟨sA, sB, sC, sD⟩ := hSw
              go_simp <;> with_reducible rfl
            try simp only [Act.put, List.getElem_toArray, List.getElem_cons_zero, List.getElem_cons_succ, List.setIfInBounds_toArray, List.set_cons_zero, List.set_cons_succ]
            refine wpTo_take (i := 8) (v := ?_) rfl (by kernel_rfl) (by kernel_rfl) (by kernel_rfl) (by kernel_rfl) (by kernel_rfl) (fun _ _ _ h => h) (Or.inl ⟨by rfl, ?_⟩) (by assumption) ?_
            rotate_left
            · intro w hSw
              obtain ⟨sA, sB, sC, sD⟩ := hSw
              go_simp <;> with_reducible rfl
            try simp only [Act.put, List.getElem_toArray, List.getElem_cons_zero, List.getElem_cons_succ, List.setIfInBounds_toArray, List.set_cons_zero, List.set_cons_succ]
            refine wpTo_take (i := 9) (v := ?_) rfl (by kernel_rfl) (by kernel_rfl) (by kernel_rfl) (by kernel_rfl) (by kernel_rfl) (fun _ _ _ h => h) (Or.inl ⟨by rfl, ?_⟩) (by assumption) ?_
            rotate_left
            · intro w hSw
              obtain ⟨sA, sB, sC, sD⟩ := hSw
              go_simp <;> with_reducible rfl
            try simp only [Act.put, List.getElem_toArray, List.getElem_cons_zero, List.getElem_cons_succ, List.setIfInBounds_toArray, List.set_cons_zero, List.set_cons_succ]
            refine wpTo_take (i := 10) (v := ?_) rfl (by kernel_rfl) (by kernel_rfl) (by kernel_rfl) (by kernel_rfl) (by kernel_rfl) (fun _ _ _ h => h) (Or.inl ⟨by rfl, ?_⟩) (by assumption) ?_
            rotate_left
            · intro w hSw
              obtain ⟨sA, sB, sC, sD⟩ := hSw
              go_simp <;> with_reducible rfl
            try simp only [Act.put, List.getElem_toArray, List.getElem_cons_zero, List.getElem_cons_succ, List.setIfInBounds_toArray, List.set_cons_zero, List.set_cons_succ]
            refine wpTo_take (i := 11) (v := ?_) rfl (by kernel_rfl) (by kernel_rfl) (by kernel_rfl) (by kernel_rfl) (by kernel_rfl) (fun _ _ _ h => h) (Or.inl ⟨by rfl, ?_⟩) (by assumption) ?_
            rotate_left
            · intro w hSw
              obtain ⟨sA, sB, sC, sD⟩ := hSw
              go_simp <;> with_reducible rfl
            try simp only [Act.put, List.getElem_toArray, List.getElem_cons_zero, List.getElem_cons_succ, List.setIfInBounds_toArray, List.set_cons_zero, List.set_cons_succ]
            refine wpTo_take (i := 12) (v := ?_) rfl (by kernel_rfl) (by kernel_rfl) (by kernel_rfl) (by kernel_rfl) (by kernel_rfl) (fun _ _ _ h => h) (Or.inl ⟨by rfl, ?_⟩) (by assumption) ?_
            rotate_left
            · intro w hSw
              obtain ⟨sA, sB, sC, sD⟩ := hSw
              go_simp <;> with_reducible rfl
            try simp only [Act.put, List.getElem_toArray, List.getElem_cons_zero, List.getElem_cons_succ, List.setIfInBounds_toArray, List.set_cons_zero, List.set_cons_succ]
            refine wpTo_take (i := 13) (v := ?_) rfl (by kernel_rfl) (by kernel_rfl) (by kernel_rfl) (by kernel_rfl) (by kernel_rfl) (fun _ _ _ h => h) (Or.inl ⟨by rfl, ?_⟩) (by assumption) ?_
            rotate_left
            · intro w hSw
              obtain ⟨sA, sB, sC, sD⟩ := hSw
              go_simp <;> with_reducible rfl
            try simp only [Act.put, List.getElem_toArray, List.getElem_cons_zero, List.getElem_cons_succ, List.setIfInBounds_toArray, List.set_cons_zero, List.set_cons_succ]
            refine wpTo_take (i := 14) (v := ?_) rfl (by kernel_rfl) (by kernel_rfl) (by kernel_rfl) (by kernel_rfl) (by kernel_rfl) (fun _ _ _ h => h) (Or.inl ⟨by rfl, ?_⟩) (by assumption) ?_
            rotate_left
            · intro w hSw
              obtain ⟨sA, sB, sC, sD⟩ := hSw
              go_simp <;> with_reducible rfl
            try simp only [Act.put, List.getElem_toArray, List.getElem_cons_zero, List.getElem_cons_succ, List.setIfInBounds_toArray, List.set_cons_zero, List.set_cons_succ]
            refine wpTo_take (i := 15) (v := ?_) rfl (by kernel_rfl) (by kernel_rfl) (by kernel_rfl) (by kernel_rfl) (by kernel_rfl) (fun _ _ _ h => h) (Or.inl ⟨by rfl, ?_⟩) (by assumption) ?_
            rotate_left
            · intro w hSw
              obtain ⟨sA, sB, sC, sD⟩ := hSw
              go_simp <;> with_reducible rfl
            try simp only [Act.put, List.getElem_toArray, List.getElem_cons_zero, List.getElem_cons_succ, List.setIfInBounds_toArray, List.set_cons_zero, List.set_cons_succ]
            refine wpTo_ready (rs := [16]) (by kernel_rfl) (by simp) ?_
            refine AllTo.cons (o := _) rfl (fun K hK => ?_) AllTo.nil
            (try simp only [List.getElem_toArray, List.getElem_cons_zero, List.getElem_cons_succ])
            go_simp
            refine (beside_any _ m cap ps zv fv _ (by exact ((unhide R1).mono (by omega) PairV.len (unhide B5)).mono (by omega) PairV.len (unhide HB).drew) (by omega)).mono ?_
            rintro e w9 ⟨rfl, hb9⟩
            rw [hu1]
            have B9 := hide ((unhide HB).drew.trans (hb9.mono (unhide HB).size))
            have S9 : w9.cell? ⟨g4, k, none⟩ = some (.slice (some ⟨rk.g, 0, none⟩) rk.l.length rk.cap) ∧ w9.cell? ⟨rk.g, p, none⟩ = some (.int .i64 zv) ∧ w9.cell? ⟨g4, i, none⟩ = some (.slice (some ⟨ri.g, 0, none⟩) ri.l.length ri.cap) ∧ w9.cell? ⟨ri.g, 0, none⟩ = some (.int .i64 fv) := ⟨keep_cell hb9 ck, keep_cell hb9 dkp, keep_cell hb9 ci, keep_cell hb9 di0⟩
            clear hb9 hHeld
            go_wp2_with fail
            refine hK.out _ _ (fun _ => S9) ?_
            clear hK K
            try simp only [Act.put, List.getElem_toArray, List.getElem_cons_zero, List.getElem_cons_succ, List.setIfInBounds_toArray, List.set_cons_zero, List.set_cons_succ]
            cases u1
            case false =>
              refine wpTo_take (i := 17) (v := ?_) rfl (by kernel_rfl) (by kernel_rfl) (by kernel_rfl) (by kernel_rfl) (by kernel_rfl) (fun _ _ _ h => h) (Or.inl ⟨by rfl, ?_⟩) (by assumption) ?_
              rotate_left
              · intro w hSw
                obtain ⟨sA, sB, sC, sD⟩ := hSw
                go_simp <;> with_reducible rfl
              try simp only [Act.put, List.getElem_toArray, List.getElem_cons_zero, List.getElem_cons_succ, List.setIfInBounds_toArray, List.set_cons_zero, List.set_cons_succ]
              refine wpTo_take (i := 18) (v := ?_) rfl (by kernel_rfl) (by kernel_rfl) (by kernel_rfl) (by kernel_rfl) (by kernel_rfl) (fun _ _ _ h => h) (Or.inl ⟨by rfl, ?_⟩) (by assumption) ?_
              rotate_left
              · intro w hSw
                obtain ⟨sA, sB, sC, sD⟩ := hSw
                go_simp <;> with_reducible rfl
              try simp only [Act.put, List.getElem_toArray, List.getElem_cons_zero, List.getElem_cons_succ, List.setIfInBounds_toArray, List.set_cons_zero, List.set_cons_succ]
              refine wpTo_take (i := 19) (v := undef) rfl (by kernel_rfl) (by kernel_rfl) (by kernel_rfl) (by kernel_rfl) (by kernel_rfl) (fun _ _ _ h => h) (Or.inr ⟨by rfl, rfl⟩) (by assumption) ?_
              try simp only [Act.put, List.getElem_toArray, List.getElem_cons_zero, List.getElem_cons_succ, List.setIfInBounds_toArray, List.set_cons_zero, List.set_cons_succ]
              refine wpTo_take (i := 20) (v := undef) rfl (by kernel_rfl) (by kernel_rfl) (by kernel_rfl) (by kernel_rfl) (by kernel_rfl) (fun _ _ _ h => h) (Or.inr ⟨by rfl, rfl⟩) (by assumption) ?_
              try simp only [Act.put, List.getElem_toArray, List.getElem_cons_zero, List.getElem_cons_succ, List.setIfInBounds_toArray, List.set_cons_zero, List.set_cons_succ]
              refine wpTo_take (i := 21) (v := undef) rfl (by kernel_rfl) (by kernel_rfl) (by kernel_rfl) (by kernel_rfl) (by kernel_rfl) (fun _ _ _ h => h) (Or.inr ⟨by rfl, rfl⟩) (by assumption) ?_
              try simp only [Act.put, List.getElem_toArray, List.getElem_cons_zero, List.getElem_cons_succ, List.setIfInBounds_toArray, List.set_cons_zero, List.set_cons_succ]
              refine wpTo_take (i := 22) (v := undef) rfl (by kernel_rfl) (by kernel_rfl) (by kernel_rfl) (by kernel_rfl) (by kernel_rfl) (fun _ _ _ h => h) (Or.inr ⟨by rfl, rfl⟩) (by assumption) ?_
              try simp only [Act.put, List.getElem_toArray, List.getElem_cons_zero, List.getElem_cons_succ, List.setIfInBounds_toArray, List.set_cons_zero, List.set_cons_succ]
              refine wpTo_take (i := 23) (v := undef) rfl (by kernel_rfl) (by kernel_rfl) (by kernel_rfl) (by kernel_rfl) (by kernel_rfl) (fun _ _ _ h => h) (Or.inr ⟨by rfl, rfl⟩) (by assumption) ?_
              try simp only [Act.put, List.getElem_toArray, List.getElem_cons_zero, List.getElem_cons_succ, List.setIfInBounds_toArray, List.set_cons_zero, List.set_cons_succ]
              refine wpTo_take (i := 24) (v := undef) rfl (by kernel_rfl) (by kernel_rfl) (by kernel_rfl) (by kernel_rfl) (by kernel_rfl) (fun _ _ _ h => h) (Or.inr ⟨by rfl, rfl⟩) (by assumption) ?_
              try simp only [Act.put, List.getElem_toArray, List.getElem_cons_zero, List.getElem_cons_succ, List.setIfInBounds_toArray, List.set_cons_zero, List.set_cons_succ]
              refine wpTo_take (i := 25) (v := undef) rfl (by kernel_rfl) (by kernel_rfl) (by kernel_rfl) (by kernel_rfl) (by kernel_rfl) (fun _ _ _ h => h) (Or.inr ⟨by rfl, rfl⟩) (by assumption) ?_
              try simp only [Act.put, List.getElem_toArray, List.getElem_cons_zero, List.getElem_cons_succ, List.setIfInBounds_toArray, List.set_cons_zero, List.set_cons_succ]
              refine wpTo_take (i := 26) (v := undef) rfl (by kernel_rfl) (by kernel_rfl) (by kernel_rfl) (by kernel_rfl) (by kernel_rfl) (fun _ _ _ h => h) (Or.inr ⟨by rfl, rfl⟩) (by assumption) ?_
              try simp only [Act.put, List.getElem_toArray, List.getElem_cons_zero, List.getElem_cons_succ, List.setIfInBounds_toArray, List.set_cons_zero, List.set_cons_succ]
              refine wpTo_take (i := 27) (v := undef) rfl (by kernel_rfl) (by kernel_rfl) (by kernel_rfl) (by kernel_rfl) (by kernel_rfl) (fun _ _ _ h => h) (Or.inr ⟨by rfl, rfl⟩) (by assumption) ?_
              try simp only [Act.put, List.getElem_toArray, List.getElem_cons_zero, List.getElem_cons_succ, List.setIfInBounds_toArray, List.set_cons_zero, List.set_cons_succ]
              refine wpTo_take (i := 28) (v := undef) rfl (by kernel_rfl) (by kernel_rfl) (by kernel_rfl) (by kernel_rfl) (by kernel_rfl) (fun _ _ _ h => h) (Or.inr ⟨by rfl, rfl⟩) (by assumption) ?_
              try simp only [Act.put, List.getElem_toArray, List.getElem_cons_zero, List.getElem_cons_succ, List.setIfInBounds_toArray, List.set_cons_zero, List.set_cons_succ]
              refine wpTo_take (i := 29) (v := undef) rfl (by kernel_rfl) (by kernel_rfl) (by kernel_rfl) (by kernel_rfl) (by kernel_rfl) (fun _ _ _ h => h) (Or.inr ⟨by rfl, rfl⟩) (by assumption) ?_
              try simp only [Act.put, List.getElem_toArray, List.getElem_cons_zero, List.getElem_cons_succ, List.setIfInBounds_toArray, List.set_cons_zero, List.set_cons_succ]
              refine wpTo_take (i := 30) (v := undef) rfl (by kernel_rfl) (by kernel_rfl) (by kernel_rfl) (by kernel_rfl) (by kernel_rfl) (fun _ _ _ h => h) (Or.inr ⟨by rfl, rfl⟩) (by assumption) ?_
              try simp only [Act.put, List.getElem_toArray, List.getElem_cons_zero, List.getElem_cons_succ, List.setIfInBounds_toArray, List.set_cons_zero, List.set_cons_succ]
              refine wpTo_take (i := 31) (v := undef) rfl (by kernel_rfl) (by kernel_rfl) (by kernel_rfl) (by kernel_rfl) (by kernel_rfl) (fun _ _ _ h => h) (Or.inr ⟨by rfl, rfl⟩) (by assumption) ?_
              try simp only [Act.put, List.getElem_toArray, List.getElem_cons_zero, List.getElem_cons_succ, List.setIfInBounds_toArray, List.set_cons_zero, List.set_cons_succ]
              refine wpTo_take (i := 32) (v := undef) rfl (by kernel_rfl) (by kernel_rfl) (by kernel_rfl) (by kernel_rfl) (by kernel_rfl) (fun _ _ _ h => h) (Or.inr ⟨by rfl, rfl⟩) (by assumption) ?_
              try simp only [Act.put, List.getElem_toArray, List.getElem_cons_zero, List.getElem_cons_succ, List.setIfInBounds_toArray, List.set_cons_zero, List.set_cons_succ]
              refine wpTo_take (i := 33) (v := undef) rfl (by kernel_rfl) (by kernel_rfl) (by kernel_rfl) (by kernel_rfl) (by kernel_rfl) (fun _ _ _ h => h) (Or.inr ⟨by rfl, rfl⟩) (by assumption) ?_
              try simp only [Act.put, List.getElem_toArray, List.getElem_cons_zero, List.getElem_cons_succ, List.setIfInBounds_toArray, List.set_cons_zero, List.set_cons_succ]
              refine wpTo_take (i := 34) (v := ?_) rfl (by kernel_rfl) (by kernel_rfl) (by kernel_rfl) (by kernel_rfl) (by kernel_rfl) (fun _ _ _ h => h) (Or.inl ⟨by rfl, ?_⟩) (by assumption) ?_
              rotate_left
              · intro w hSw
                obtain ⟨sA, sB, sC, sD⟩ := hSw
                go_simp <;> with_reducible rfl
              try simp only [Act.put, List.getElem_toArray, List.getElem_cons_zero, List.getElem_cons_succ, List.setIfInBounds_toArray, List.set_cons_zero, List.set_cons_succ]
              refine wpTo_take (i := 35) (v := ?_) rfl (by kernel_rfl) (by kernel_rfl) (by kernel_rfl) (by kernel_rfl) (by kernel_rfl) (fun _ _ _ h => h) (Or.inl ⟨by rfl, ?_⟩) (by assumption) ?_
              rotate_left
              · intro w hSw
                obtain ⟨sA, sB, sC, sD⟩ := hSw
                go_simp <;> with_reducible rfl
              try simp only [Act.put, List.getElem_toArray, List.getElem_cons_zero, List.getElem_cons_succ, List.setIfInBounds_toArray, List.set_cons_zero, List.set_cons_succ]
              refine wpTo_done (by kernel_rfl) ?_ _
              go_wp2_with fail
              go_roundw
              case rel => exact ⟨p + 1, false, by omega, by go_num, rfl, by rw [unhide HST, ← unhide HMB, hu1]; rfl, unhide B9⟩
              case measure => simp [intOf]; omega
            case true =>
              refine wpTo_take (i := 17) (v := ?_) rfl (by kernel_rfl) (by kernel_rfl) (by kernel_rfl) (by kernel_rfl) (by kernel_rfl) (fun _ _ _ h => h) (Or.inl ⟨by rfl, ?_⟩) (by assumption) ?_
              rotate_left
              · intro w hSw
                obtain ⟨sA, sB, sC, sD⟩ := hSw
                go_simp <;> with_reducible rfl
              try simp only [Act.put, List.getElem_toArray, List.getElem_cons_zero, List.getElem_cons_succ, List.setIfInBounds_toArray, List.set_cons_zero, List.set_cons_succ]
              refine wpTo_take (i := 18) (v := ?_) rfl (by kernel_rfl) (by kernel_rfl) (by kernel_rfl) (by kernel_rfl) (by kernel_rfl) (fun _ _ _ h => h) (Or.inl ⟨by rfl, ?_⟩) (by assumption) ?_
              rotate_left
              · intro w hSw
                obtain ⟨sA, sB, sC, sD⟩ := hSw
                go_simp <;> with_reducible rfl
              try simp only [Act.put, List.getElem_toArray, List.getElem_cons_zero, List.getElem_cons_succ, List.setIfInBounds_toArray, List.set_cons_zero, List.set_cons_succ]
              refine wpTo_take (i := 19) (v := ?_) rfl (by kernel_rfl) (by kernel_rfl) (by kernel_rfl) (by kernel_rfl) (by kernel_rfl) (fun _ _ _ h => h) (Or.inl ⟨by rfl, ?_⟩) (by assumption) ?_
              rotate_left
              · intro w hSw
                obtain ⟨sA, sB, sC, sD⟩ := hSw
                go_simp <;> with_reducible rfl
              try simp only [Act.put, List.getElem_toArray, List.getElem_cons_zero, List.getElem_cons_succ, List.setIfInBounds_toArray, List.set_cons_zero, List.set_cons_succ]
              refine wpTo_take (i := 20) (v := ?_) rfl (by kernel_rfl) (by kernel_rfl) (by kernel_rfl) (by kernel_rfl) (by kernel_rfl) (fun _ _ _ h => h) (Or.inl ⟨by rfl, ?_⟩) (by assumption) ?_
              rotate_left
              · intro w hSw
                obtain ⟨sA, sB, sC, sD⟩ := hSw
                go_simp <;> with_reducible rfl
              try simp only [Act.put, List.getElem_toArray, List.getElem_cons_zero, List.getElem_cons_succ, List.setIfInBounds_toArray, List.set_cons_zero, List.set_cons_succ]
              refine wpTo_take (i := 21) (v := ?_) rfl (by kernel_rfl) (by kernel_rfl) (by kernel_rfl) (by kernel_rfl) (by kernel_rfl) (fun _ _ _ h => h) (Or.inl ⟨by rfl, ?_⟩) (by assumption) ?_
              rotate_left
              · intro w hSw
                obtain ⟨sA, sB, sC, sD⟩ := hSw
                go_simp <;> with_reducible rfl
              try simp only [Act.put, List.getElem_toArray, List.getElem_cons_zero, List.getElem_cons_succ, List.setIfInBounds_toArray, List.set_cons_zero, List.set_cons_succ]
              refine wpTo_take (i := 22) (v := ?_) rfl (by kernel_rfl) (by kernel_rfl) (by kernel_rfl) (by kernel_rfl) (by kernel_rfl) (fun _ _ _ h => h) (Or.inl ⟨by rfl, ?_⟩) (by assumption) ?_
              rotate_left
              · intro w hSw
                obtain ⟨sA, sB, sC, sD⟩ := hSw
                go_simp <;> with_reducible rfl
              try simp only [Act.put, List.getElem_toArray, List.getElem_cons_zero, List.getElem_cons_succ, List.setIfInBounds_toArray, List.set_cons_zero, List.set_cons_succ]
              refine wpTo_take (i := 23) (v := ?_) rfl (by kernel_rfl) (by kernel_rfl) (by kernel_rfl) (by kernel_rfl) (by kernel_rfl) (fun _ _ _ h => h) (Or.inl ⟨by rfl, ?_⟩) (by assumption) ?_
              rotate_left
              · intro w hSw
                obtain ⟨sA, sB, sC, sD⟩ := hSw
                go_simp <;> with_reducible rfl
              try simp only [Act.put, List.getElem_toArray, List.getElem_cons_zero, List.getElem_cons_succ, List.setIfInBounds_toArray, List.set_cons_zero, List.set_cons_succ]
              refine wpTo_take (i := 24) (v := ?_) rfl (by kernel_rfl) (by kernel_rfl) (by kernel_rfl) (by kernel_rfl) (by kernel_rfl) (fun _ _ _ h => h) (Or.inl ⟨by rfl, ?_⟩) (by assumption) ?_
              rotate_left
              · intro w hSw
                obtain ⟨sA, sB, sC, sD⟩ := hSw
                go_simp <;> with_reducible rfl
              try simp only [Act.put, List.getElem_toArray, List.getElem_cons_zero, List.getElem_cons_succ, List.setIfInBounds_toArray, List.set_cons_zero, List.set_cons_succ]
              refine wpTo_take (i := 25) (v := ?_) rfl (by kernel_rfl) (by kernel_rfl) (by kernel_rfl) (by kernel_rfl) (by kernel_rfl) (fun _ _ _ h => h) (Or.inl ⟨by rfl, ?_⟩) (by assumption) ?_
              rotate_left
              · intro w hSw
                obtain ⟨sA, sB, sC, sD⟩ := hSw
                go_simp <;> with_reducible rfl
              try simp only [Act.put, List.getElem_toArray, List.getElem_cons_zero, List.getElem_cons_succ, List.setIfInBounds_toArray, List.set_cons_zero, List.set_cons_succ]
              refine wpTo_take (i := 26) (v := ?_) rfl (by kernel_rfl) (by kernel_rfl) (by kernel_rfl) (by kernel_rfl) (by kernel_rfl) (fun _ _ _ h => h) (Or.inl ⟨by rfl, ?_⟩) (by assumption) ?_
              rotate_left
              · intro w hSw
                obtain ⟨sA, sB, sC, sD⟩ := hSw
                go_simp <;> with_reducible rfl
              try simp only [Act.put, List.getElem_toArray, List.getElem_cons_zero, List.getElem_cons_succ, List.setIfInBounds_toArray, List.set_cons_zero, List.set_cons_succ]
              refine wpTo_take (i := 27) (v := ?_) rfl (by kernel_rfl) (by kernel_rfl) (by kernel_rfl) (by kernel_rfl) (by kernel_rfl) (fun _ _ _ h => h) (Or.inl ⟨by rfl, ?_⟩) (by assumption) ?_
              rotate_left
              · intro w hSw
                obtain ⟨sA, sB, sC, sD⟩ := hSw
                go_simp <;> with_reducible rfl
              try simp only [Act.put, List.getElem_toArray, List.getElem_cons_zero, List.getElem_cons_succ, List.setIfInBounds_toArray, List.set_cons_zero, List.set_cons_succ]
              refine wpTo_take (i := 28) (v := ?_) rfl (by kernel_rfl) (by kernel_rfl) (by kernel_rfl) (by kernel_rfl) (by kernel_rfl) (fun _ _ _ h => h) (Or.inl ⟨by rfl, ?_⟩) (by assumption) ?_
              rotate_left
              · intro w hSw
                obtain ⟨sA, sB, sC, sD⟩ := hSw
                go_simp <;> with_reducible rfl
              try simp only [Act.put, List.getElem_toArray, List.getElem_cons_zero, List.getElem_cons_succ, List.setIfInBounds_toArray, List.set_cons_zero, List.set_cons_succ]
              refine wpTo_take (i := 29) (v := ?_) rfl (by kernel_rfl) (by kernel_rfl) (by kernel_rfl) (by kernel_rfl) (by kernel_rfl) (fun _ _ _ h => h) (Or.inl ⟨by rfl, ?_⟩) (by assumption) ?_
              rotate_left
              · intro w hSw
                obtain ⟨sA, sB, sC, sD⟩ := hSw
                go_simp <;> with_reducible rfl
              try simp only [Act.put, List.getElem_toArray, List.getElem_cons_zero, List.getElem_cons_succ, List.setIfInBounds_toArray, List.set_cons_zero, List.set_cons_succ]
              refine wpTo_take (i := 30) (v := ?_) rfl (by kernel_rfl) (by kernel_rfl) (by kernel_rfl) (by kernel_rfl) (by kernel_rfl) (fun _ _ _ h => h) (Or.inl ⟨by rfl, ?_⟩) (by assumption) ?_
              rotate_left
              · intro w hSw
                obtain ⟨sA, sB, sC, sD⟩ := hSw
                go_simp <;> with_reducible rfl
              try simp only [Act.put, List.getElem_toArray, List.getElem_cons_zero, List.getElem_cons_succ, List.setIfInBounds_toArray, List.set_cons_zero, List.set_cons_succ]
              refine wpTo_take (i := 31) (v := ?_) rfl (by kernel_rfl) (by kernel_rfl) (by kernel_rfl) (by kernel_rfl) (by kernel_rfl) (fun _ _ _ h => h) (Or.inl ⟨by rfl, ?_⟩) (by assumption) ?_
              rotate_left
              · intro w hSw
                obtain ⟨sA, sB, sC, sD⟩ := hSw
                go_simp <;> with_reducible rfl
              try simp only [Act.put, List.getElem_toArray, List.getElem_cons_zero, List.getElem_cons_succ, List.setIfInBounds_toArray, List.set_cons_zero, List.set_cons_succ]
              refine wpTo_take (i := 32) (v := ?_) rfl (by kernel_rfl) (by kernel_rfl) (by kernel_rfl) (by kernel_rfl) (by kernel_rfl) (fun _ _ _ h => h) (Or.inl ⟨by rfl, ?_⟩) (by assumption) ?_
              rotate_left
              · intro w hSw
                obtain ⟨sA, sB, sC, sD⟩ := hSw
                go_simp <;> with_reducible rfl
              try simp only [Act.put, List.getElem_toArray, List.getElem_cons_zero, List.getElem_cons_succ, List.setIfInBounds_toArray, List.set_cons_zero, List.set_cons_succ]
              refine wpTo_ready (rs := [33]) (by kernel_rfl) (by simp) ?_
              refine AllTo.cons (o := _) rfl (fun K hK => ?_) AllTo.nil
              (try simp only [List.getElem_toArray, List.getElem_cons_zero, List.getElem_cons_succ])
              go_simp
              refine (beside_any _ m cap ps fv zv _ (by exact ((unhide R1).mono (by omega) PairV.len (unhide B5)).mono (by omega) PairV.len (unhide B9)) (by omega)).mono ?_
              rintro e w10 ⟨rfl, hb10⟩
              rw [hu2]
              have B10 := hide ((unhide B9).trans (hb10.mono (unhide B9).size))
              have S10 : w10.cell? ⟨g4, k, none⟩ = some (.slice (some ⟨rk.g, 0, none⟩) rk.l.length rk.cap) ∧ w10.cell? ⟨rk.g, p, none⟩ = some (.int .i64 zv) ∧ w10.cell? ⟨g4, i, none⟩ = some (.slice (some ⟨ri.g, 0, none⟩) ri.l.length ri.cap) ∧ w10.cell? ⟨ri.g, 0, none⟩ = some (.int .i64 fv) := ⟨keep_cell hb10 S9.1, keep_cell hb10 S9.2.1, keep_cell hb10 S9.2.2.1, keep_cell hb10 S9.2.2.2⟩
              clear hb10 S9
              go_wp2_with fail
              refine hK.out _ _ (fun _ => S10) ?_
              clear hK K
              try simp only [Act.put, List.getElem_toArray, List.getElem_cons_zero, List.getElem_cons_succ, List.setIfInBounds_toArray, List.set_cons_zero, List.set_cons_succ]
              refine wpTo_take (i := 34) (v := ?_) rfl (by kernel_rfl) (by kernel_rfl) (by kernel_rfl) (by kernel_rfl) (by kernel_rfl) (fun _ _ _ h => h) (Or.inl ⟨by rfl, ?_⟩) (by assumption) ?_
              rotate_left
              · intro w hSw
                obtain ⟨sA, sB, sC, sD⟩ := hSw
                go_simp <;> with_reducible rfl
              try simp only [Act.put, List.getElem_toArray, List.getElem_cons_zero, List.getElem_cons_succ, List.setIfInBounds_toArray, List.set_cons_zero, List.set_cons_succ]
              refine wpTo_take (i := 35) (v := ?_) rfl (by kernel_rfl) (by kernel_rfl) (by kernel_rfl) (by kernel_rfl) (by kernel_rfl) (fun _ _ _ h => h) (Or.inl ⟨by rfl, ?_⟩) (by assumption) ?_
              rotate_left
              · intro w hSw
                obtain ⟨sA, sB, sC, sD⟩ := hSw
                go_simp <;> with_reducible rfl
              try simp only [Act.put, List.getElem_toArray, List.getElem_cons_zero, List.getElem_cons_succ, List.setIfInBounds_toArray, List.set_cons_zero, List.set_cons_succ]
              refine wpTo_done (by kernel_rfl) ?_ _
              go_wp2_with fail
              go_roundw
              case rel => exact ⟨p + 1, u2, by omega, by go_num, rfl, by rw [unhide HST, ← unhide HMB, hu1, hu2]; rfl, unhide B10⟩
              case measure => simp [intOf]; omega
end Go.Proofs.Ytmjohalblppgiaa
