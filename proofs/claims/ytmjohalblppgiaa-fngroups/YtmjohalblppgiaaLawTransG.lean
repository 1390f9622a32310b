/- laws.FnTransitive: where the table is transitive among the kinds there are, kinds of two groups may not lie beside one another. -/
import Derived.Test.YtmjohalblppgiaaTrans
import Derived.Test.YtmjohalblppgiaaTableEnd
import Derived.Test.YtmjohalblppgiaaGroupsPlain
import Derived.Test.YtmjohalblppgiaaDraw3
import Derived.Deep.RegionHeld
namespace Go.Proofs.Ytmjohalblppgiaa
open Go.RowKit
set_option linter.unusedVariables false
set_option linter.unusedSimpArgs false

theorem tab_row {ps : List PairV} {c : Nat} (h : tableB ps (c : Int) = true) {a b : Nat} (ha : a < c) (hb : b < c) : (a = b → besB ps a a = true) ∧ besB ps a b = besB ps b a := by
  simp only [tableB, tableRow, Bool.and_eq_true, Int.toNat_natCast, List.all_eq_true, List.mem_range] at h
  have h1 := h.2 a ha b hb
  rw [Bool.not_eq_true', Bool.or_eq_false_iff, bne_eq_false_iff_eq] at h1
  refine ⟨fun e => ?_, h1.2⟩
  have h2 := h1.1
  simp [e] at h2
  rw [e]
  exact h2
theorem trans_at {ps : List PairV} {l : List Int} (h : transB ps l = true) {x y z : Int} (hx : x ∈ l) (hy : y ∈ l) (hz : z ∈ l) (h1 : besB ps x y = true) (h2 : besB ps y z = true) : besB ps x z = true := by
  unfold transB at h
  simp only [List.all_eq_true] at h
  have h3 := h x hx y hy z hz
  unfold badThree at h3
  rw [h1, h2] at h3
  simpa using h3
theorem groups_apart {ps : List PairV} {l : List Int} {gs : List (List Int)} (hT : transB ps l = true) (hS : tableB ps 4 = true) (h : GInv ps l gs) {i k a b : Nat} (hki : k < i) (hi : i < gs.length) (ha : a < (gs.getD i []).length) (hb : b < (gs.getD k []).length) :
    besB ps ((gs.getD i []).getD a 0) ((gs.getD k []).getD b 0) = false := by
  have sym : ∀ x y, x ∈ kinds → y ∈ kinds → besB ps x y = besB ps y x := by
    intro x y hx hy
    obtain ⟨p, rfl, hp⟩ := kinds_lt hx
    obtain ⟨q, rfl, hq⟩ := kinds_lt hy
    exact (tab_row (c := 4) hS hp hq).2
  have rfl' : ∀ x, x ∈ kinds → besB ps x x = true := by
    intro x hx
    obtain ⟨p, rfl, hp⟩ := kinds_lt hx
    exact (tab_row (c := 4) hS hp hp).1 rfl
  have same : ∀ j, j < gs.length → ∀ p q, p < (gs.getD j []).length → q < (gs.getD j []).length → besB ps ((gs.getD j []).getD p 0) ((gs.getD j []).getD q 0) = true := by
    intro j hj p q hp hq
    by_cases e : p = q
    · subst e; exact rfl' _ (h.mem j hj _ (getD_in hp)).2
    · exact h.pw j hj p q hp hq e
  have hk : k < gs.length := by omega
  cases hc : besB ps ((gs.getD i []).getD a 0) ((gs.getD k []).getD b 0)
  · rfl
  exfalso
  have h0 := h.ne i hi
  have hf := h.fst i k hki hi
  have mi := fun p hp => h.mem i hi _ (getD_in (a := p) hp)
  have mk := fun p hp => h.mem k hk _ (getD_in (a := p) hp)
  have hall : joinsB ps (gs.getD k []) ((gs.getD i []).getD 0 0) = true := by
    unfold joinsB
    rw [List.all_eq_true]
    intro z hz
    obtain ⟨q, hq, rfl⟩ := mem_at hz
    have z1 := same k hk q b hq hb
    have z2 : besB ps ((gs.getD k []).getD b 0) ((gs.getD i []).getD a 0) = true := by rw [sym _ _ (mk b hb).2 (mi a ha).2]; exact hc
    have z3 := same i hi a 0 ha h0
    have z4 := trans_at hT (mk q hq).1 (mk b hb).1 (mi a ha).1 z1 z2
    have z5 := trans_at hT (mk q hq).1 (mi a ha).1 (mi 0 h0).1 z4 z3
    rw [Bool.and_eq_true]
    exact ⟨z5, by rw [sym _ _ (mi 0 h0).2 (mk q hq).2]; exact z5⟩
  rw [hall] at hf
  cases hf
theorem keep_cell {w w' : World} {p : Addr} {v : Value} (hb : Below w.heap.size w w') (h : w.cell? p = some v) : w'.cell? p = some v := (hb.cell (World.block_lt_of_cell? w _ h)).trans h
/-- The rows' cells. -/
theorem Own2.at {w : World} {B g cap : Nat} {xs : List RowV} (h : Own2 w B g cap xs) (i : Nat) (hi : i < xs.length) : w.cell? ⟨g, i, none⟩ = some (.slice (some ⟨(xs.getD i default).g, 0, none⟩) (xs.getD i default).l.length (xs.getD i default).cap) ∧ ∀ a, a < (xs.getD i default).l.length → w.cell? ⟨(xs.getD i default).g, a, none⟩ = some (.int .i64 ((xs.getD i default).l.getD a 0)) := by
  refine ⟨(h.cell i hi).1, fun a ha => ?_⟩
  obtain ⟨b, off, e, hc⟩ := (own_reads (h.rws.row i hi)).2 a ha
  cases e
  rw [Nat.zero_add] at hc
  exact hc
set_option maxRecDepth 100000 in
set_option maxHeartbeats 6400000 in
theorem law_transG (a : Option Addr) (n c : Nat) (zs : List Int) (w : World) (hr : RdB w a n zs) (hm : n ≤ maxLen) :
    Calls Try.prog 4 #[.slice a n c] w fun e w' => e = .returned (.bool true) ∧ Below w.heap.size w w' := by
  unfold maxLen at hm
  by_cases hn : n ≤ 1048576
  case neg =>
    have hgt : (1048576 : Int) < (n : Int) := by omega
    go_enter Try.func4, Try.ntmps4
    go_wp2_with (first | (go_at_call 9; go_in) | fail)
    go_ret
    exact ⟨rfl, Below.refl _ _⟩
  have hgt : ¬ (1048576 : Int) < (n : Int) := by omega
  have HR := hide hr
  clear hr
  go_enter Try.func4, Try.ntmps4
  go_wp2_with (first | (go_at_call 9; go_in) | fail)
  refine (drawTransitive_any a n c zs w (unhide HR) hn).mono ?_
  rintro e w1 ⟨b, off, m, cap, g, m2, cap2, ps, l, rfl, hm17, hm5, hr1, hl1, hb1⟩
  have R1 := hide hr1
  have L1 := hide hl1
  have B1 := hide hb1
  obtain ⟨t, ht⟩ : ∃ t, transB ps l = t := ⟨_, rfl⟩
  have HT := hide ht
  have htt : (t != t) = false := by simp
  clear hr1 hl1 hb1 ht
  go_wp2_with fail
  refine (transitive_any _ m cap ps _ m2 cap2 l w1 (unhide R1) (unhide L1) (by omega) (by omega)).mono ?_
  rintro e w2 ⟨rfl, hb2⟩
  have B2 := hide hb2
  clear hb2
  rw [unhide HT]
  go_wp2_with fail
  refine (specTransitive_any _ m cap ps _ m2 cap2 l w2 ((unhide R1).mono (by omega) PairV.len (unhide B2)) ((unhide L1).mono (unhide B2)) (by omega) (by omega)).mono ?_
  rintro e w3 ⟨rfl, hb3⟩
  have B3 := hide ((unhide B2).trans (hb3.mono (unhide B2).size))
  clear hb3 B2
  rw [unhide HT]
  go_wp2_with fail
  refine (groups_any _ m cap ps _ m2 cap2 l w3 ((unhide R1).mono (by omega) PairV.len (unhide B3)) ((unhide L1).mono (unhide B3)) (by omega) (by omega)).mono ?_
  rintro e w4 ⟨g4, cap4, xs, rfl, ho4, hg4, hb4⟩
  have O4 := hide ho4
  have G4 := hide hg4
  have B4 := hide ((unhide B3).trans (hb4.mono (unhide B3).size))
  clear ho4 hg4 hb4 B3
  go_wp2_with fail
  refine (specGroups_any _ m cap ps _ m2 cap2 l w4 ((unhide R1).mono (by omega) PairV.len (unhide B4)) ((unhide L1).mono (unhide B4)) (by omega) (by omega)).mono ?_
  rintro e w5 ⟨g5, cap5, ys, rfl, ho5, hg5, hb5⟩
  have hlen : ys.length = xs.length := by rw [← List.length_map (f := RowV.l), hg5, ← unhide G4, List.length_map]
  have O5 := hide ((unhide O4).later hb5)
  have B5 := hide ((unhide B4).trans (hb5.mono (unhide B4).size))
  rw [hlen]
  have hne : ((xs.length : Int) != (xs.length : Int)) = false := by simp
  have hx4 : xs.length ≤ 4 := by
    have := (groupsTo_bnd ps l 4 (Nat.le_refl _)).1
    rw [groupsTo_four, ← unhide G4, List.length_map] at this
    exact this
  clear ho5 hg5 hb5 hlen B4 O4
  have HFIN : Hid (Below w.heap.size w w5) := (unhide B1).trans ((unhide B5).mono (unhide B1).size)
  cases t
  case false =>
    go_wp2_with fail
    go_ret
    exact ⟨rfl, unhide HFIN⟩
  go_wp2_with fail
  refine (specTableOk_any _ m cap ps 4 w5 ((unhide R1).mono (by omega) PairV.len (unhide B5)) (by omega)).mono ?_
  rintro e w6 ⟨rfl, hw⟩
  subst w6
  obtain ⟨s, hs⟩ : ∃ s, tableB ps 4 = s := ⟨_, rfl⟩
  rw [hs]
  cases s
  case false =>
    go_wp2_with fail
    go_ret
    exact ⟨rfl, unhide HFIN⟩
  have HAP : Hid (∀ i k p q, k < i → i < xs.length → p < (xs.getD i default).l.length → q < (xs.getD k default).l.length → besB ps ((xs.getD i default).l.getD p 0) ((xs.getD k default).l.getD q 0) = false) := by
    have hinv := groups_inv ps l
    rw [← unhide G4] at hinv
    refine hide (fun i k p q h1 h2 h3 h4 => ?_)
    have := groups_apart (unhide HT) hs hinv h1 (by rw [List.length_map]; exact h2) (by rw [map_getD_l xs i h2]; exact h3) (by rw [map_getD_l xs k (by omega)]; exact h4)
    rw [map_getD_l xs i h2, map_getD_l xs k (by omega)] at this
    exact this
  have HRL : Hid (∀ i, i < xs.length → (xs.getD i default).l.length ≤ 4) := hide (fun i hi => by
    have := (groupsTo_bnd ps l 4 (Nat.le_refl _))
    rw [groupsTo_four, ← unhide G4] at this
    have := this.row i (by rw [List.length_map]; exact hi)
    rwa [map_getD_l xs i hi] at this)
  clear hs HFIN G4
  go_wp2_with fail
  go_loopw [7] (fun i wr => ∃ k : Nat, k ≤ xs.length ∧ i = .int .i64 k ∧ Below w5.heap.size w5 wr) (fun i _ => xs.length - (intOf i).toNat)
  case atStart => exact ⟨0, by omega, rfl, Below.refl _ _⟩
  case round =>
    obtain ⟨i, hi, rfl, hbel⟩ := hrel
    have HB := hide hbel
    clear hbel
    by_cases hlt : i < xs.length
    case neg =>
      go_wp2_with fail
      go_ret
      exact ⟨rfl, (unhide B1).trans (((unhide B5).trans ((unhide HB).mono (unhide B5).size)).mono (unhide B1).size)⟩
    go_wp2_with fail
    go_loopw [8] (fun i wr => ∃ k : Nat, k ≤ xs.length ∧ i = .int .i64 k ∧ Below w5.heap.size w5 wr) (fun i _ => xs.length - (intOf i).toNat)
    case atStart => exact ⟨0, by omega, rfl, unhide HB⟩
    case round =>
      clear HB
      obtain ⟨k, hk, rfl, hbel⟩ := hrel
      have HB := hide hbel
      clear hbel
      by_cases hki : k < i
      case neg =>
        go_wp2_with fail
        go_roundw
        case rel => exact ⟨i + 1, by omega, by go_num, unhide HB⟩
        case measure => simp [intOf]; omega
      have hli := (unhide HRL) i hlt
      have hlk := (unhide HRL) k (by omega)
      go_wp2_with fail
      go_loopw [9] (fun i' wr => ∃ k' : Nat, k' ≤ 4 ∧ i' = .int .i64 k' ∧ Below w5.heap.size w5 wr) (fun i _ => 4 - (intOf i).toNat)
      case atStart => exact ⟨0, by omega, rfl, unhide HB⟩
      case round =>
        clear HB
        obtain ⟨p, hp, rfl, hbel⟩ := hrel
        have HB := hide hbel
        clear hbel
        obtain ⟨ci, di⟩ := ((unhide O5).later (unhide HB)).at i hlt
        by_cases hpl : p < (xs.getD i default).l.length
        case neg =>
          generalize xs.getD i default = ri at ci di hpl hli
          clear di
          go_wp2_with fail
          go_roundw
          case rel => exact ⟨k + 1, by omega, by go_num, unhide HB⟩
          case measure => simp [intOf]; omega
        have HAP2 := hide (fun q h => (unhide HAP) i k p q hki hlt hpl h)
        have HDI := hide (di p hpl)
        have HCI := hide ci
        clear di
        generalize xs.getD i default = ri at ci hpl hli HAP2 HDI HCI
        go_wp2_with fail
        go_loopw [10] (fun i' wr => ∃ k' : Nat, k' ≤ 4 ∧ i' = .int .i64 k' ∧ Below w5.heap.size w5 wr ∧ wr.cell? ⟨g4, i, none⟩ = some (.slice (some ⟨ri.g, 0, none⟩) ri.l.length ri.cap) ∧ wr.cell? ⟨ri.g, p, none⟩ = some (.int .i64 (ri.l.getD p 0))) (fun i _ => 4 - (intOf i).toNat)
        case atStart => exact ⟨0, by omega, rfl, unhide HB, unhide HCI, unhide HDI⟩
        case round =>
          clear HB ci HCI HDI
          obtain ⟨q, hq, rfl, hbel, ci, dip⟩ := hrel
          have HB := hide hbel
          clear hbel
          obtain ⟨ck, dk⟩ := ((unhide O5).later (unhide HB)).at k (by omega)
          by_cases hql : q < (xs.getD k default).l.length
          case neg =>
            generalize xs.getD k default = rk at ck dk hql hlk
            clear dk ci dip
            go_wp2_with fail
            go_roundw
            case rel => exact ⟨p + 1, by omega, by go_num, unhide HB⟩
            case measure => simp [intOf]; omega
          have dkq := dk q hql
          have hap := (unhide HAP2) q hql
          clear dk
          generalize xs.getD k default = rk at ck dkq hql hlk hap
          generalize hxv : ri.l.getD p 0 = xv at dip hap
          generalize hyv : rk.l.getD q 0 = yv at dkq hap
          clear hyv
          go_wp2_with fail
          go_region_held (fun w' => w'.cell? ⟨g4, i, none⟩ = some (.slice (some ⟨ri.g, 0, none⟩) ri.l.length ri.cap) ∧ w'.cell? ⟨ri.g, p, none⟩ = some (.int .i64 xv) ∧ w'.cell? ⟨g4, k, none⟩ = some (.slice (some ⟨rk.g, 0, none⟩) rk.l.length rk.cap) ∧ w'.cell? ⟨rk.g, q, none⟩ = some (.int .i64 yv)) (first | assumption | exact ⟨ci, dip, ck, dkq⟩ | go_keep) ((go_at_call 15; go_must (refine (beside_any _ m cap ps xv yv _ (by exact ((unhide R1).mono (by omega) PairV.len (unhide B5)).mono (by omega) PairV.len (unhide HB).drew) (by omega)).mono ?_; rintro e w9 ⟨rfl, hb9⟩; rw [hap]; have B9 := hide ((unhide HB).drew.trans (hb9.mono (unhide HB).size)); have S9 : w9.cell? ⟨g4, i, none⟩ = some (.slice (some ⟨ri.g, 0, none⟩) ri.l.length ri.cap) ∧ w9.cell? ⟨ri.g, p, none⟩ = some (.int .i64 xv) ∧ w9.cell? ⟨g4, k, none⟩ = some (.slice (some ⟨rk.g, 0, none⟩) rk.l.length rk.cap) ∧ w9.cell? ⟨rk.g, q, none⟩ = some (.int .i64 yv) := ⟨keep_cell hb9 ci, keep_cell hb9 dip, keep_cell hb9 ck, keep_cell hb9 dkq⟩; clear hb9)))
          all_goals
            go_wp2_with fail
            go_roundw
            case rel => exact ⟨q + 1, by omega, by go_num, unhide B9, S9.1, S9.2.1⟩
            case measure => simp [intOf]; omega
end Go.Proofs.Ytmjohalblppgiaa
