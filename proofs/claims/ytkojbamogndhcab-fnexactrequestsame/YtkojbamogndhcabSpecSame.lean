/- RequestSame of the model answers whether both orders are the same. -/
import Derived.Test.YtkojbamogndhcabSame
namespace Go.Proofs.Ytkojbamogndhcab
open Go.RowKit
set_option linter.unusedVariables false
set_option maxHeartbeats 4000000 in
theorem specRequestSame_any (r s : ReqV) (h g : ReqH) (w : World) (hr : RdReq w r h) (hg : RdReq w s g) (hrs : r.small) (hss : s.small) :
    Calls Try.prog 5 #[reqVal r h, reqVal s g] w fun e w' => e = .returned (.bool (decide (r = s))) ∧ Below w.heap.size w w' := by
  unfold ReqV.small at hrs hss
  unfold reqVal
  by_cases e1 : r.way = s.way
  case neg =>
    have HN : Hid (decide (r = s) = false) := decide_eq_false (fun e => e1 (by rw [e]))
    have e1b := bne_no e1
    clear e1
    go_enter Try.func5, Try.ntmps5
    go_wp2_with fail
    go_ret
    exact ⟨ret_same (unhide HN).symm, ((Below.refl _ _).alloc (Nat.le_refl _) _).alloc (by simp) _⟩
  have e1b := bne_yes e1
  have E1 := hide e1
  clear e1
  by_cases e2 : r.pal = s.pal
  case neg =>
    have HN : Hid (decide (r = s) = false) := decide_eq_false (fun e => e2 (by rw [e]))
    rcases PalletV.part e2 with x0 | ⟨x0, x1⟩ | ⟨x0, x1, x2⟩ | ⟨x0, x1, x2, x3⟩
    all_goals
      clear e2
      go_enter Try.func5, Try.ntmps5
      go_wp2_with fail
      go_ret
      exact ⟨ret_same (unhide HN).symm, ((Below.refl _ _).alloc (Nat.le_refl _) _).alloc (by simp) _⟩
  obtain ⟨x0, x1, x2, x3⟩ := PalletV.same e2
  have E2 := hide e2
  clear e2
  by_cases e3 : r.classes = s.classes
  case neg =>
    have HN : Hid (decide (r = s) = false) := decide_eq_false (fun e => e3 (by rw [e]))
    have e3b := bne_no e3
    clear e3
    go_enter Try.func5, Try.ntmps5
    go_wp2_with fail
    go_ret
    exact ⟨ret_same (unhide HN).symm, ((Below.refl _ _).alloc (Nat.le_refl _) _).alloc (by simp) _⟩
  have e3b := bne_yes e3
  have E3 := hide e3
  clear e3
  by_cases e4 : r.master = s.master
  case neg =>
    have HN : Hid (decide (r = s) = false) := decide_eq_false (fun e => e4 (by rw [e]))
    have e4b := bne_no e4
    clear e4
    go_enter Try.func5, Try.ntmps5
    go_wp2_with fail
    go_ret
    exact ⟨ret_same (unhide HN).symm, ((Below.refl _ _).alloc (Nat.le_refl _) _).alloc (by simp) _⟩
  have e4b := bne_yes e4
  have E4 := hide e4
  clear e4
  by_cases n0 : r.pairs.length = s.pairs.length
  case neg =>
    have HN : Hid (decide (r = s) = false) := decide_eq_false (fun e => n0 (by rw [e]))
    have nb : ((r.pairs.length : Int) != (s.pairs.length : Int)) = true := bne_no (by omega)
    clear n0
    go_enter Try.func5, Try.ntmps5
    go_wp2_with fail
    go_ret
    exact ⟨ret_same (unhide HN).symm, ((Below.refl _ _).alloc (Nat.le_refl _) _).alloc (by simp) _⟩
  have n0b : ((r.pairs.length : Int) != (s.pairs.length : Int)) = false := bne_yes (by omega)
  have N0 := hide n0
  clear n0
  by_cases n1 : r.types.length = s.types.length
  case neg =>
    have HN : Hid (decide (r = s) = false) := decide_eq_false (fun e => n1 (by rw [e]))
    have nb : ((r.types.length : Int) != (s.types.length : Int)) = true := bne_no (by omega)
    clear n1
    go_enter Try.func5, Try.ntmps5
    go_wp2_with fail
    go_ret
    exact ⟨ret_same (unhide HN).symm, ((Below.refl _ _).alloc (Nat.le_refl _) _).alloc (by simp) _⟩
  have n1b : ((r.types.length : Int) != (s.types.length : Int)) = false := bne_yes (by omega)
  have N1 := hide n1
  clear n1
  by_cases n2 : r.items.length = s.items.length
  case neg =>
    have HN : Hid (decide (r = s) = false) := decide_eq_false (fun e => n2 (by rw [e]))
    have nb : ((r.items.length : Int) != (s.items.length : Int)) = true := bne_no (by omega)
    clear n2
    go_enter Try.func5, Try.ntmps5
    go_wp2_with fail
    go_ret
    exact ⟨ret_same (unhide HN).symm, ((Below.refl _ _).alloc (Nat.le_refl _) _).alloc (by simp) _⟩
  have n2b : ((r.items.length : Int) != (s.items.length : Int)) = false := bne_yes (by omega)
  have N2 := hide n2
  clear n2
  go_enter Try.func5, Try.ntmps5
  go_wp2_with fail
  go_loopw [5] (fun i wr => ∃ k : Nat, k ≤ r.pairs.length ∧ i = .int .i64 k ∧ r.pairs.take k = s.pairs.take k ∧ Blk wr w.heap.size [.int .i64 r.way, .int .i64 r.pal.wd, .int .i64 r.pal.dp, .int .i64 r.pal.ht, .int .i64 r.pal.gram, .int .i64 r.classes, .slice h.ap r.pairs.length h.cp, .slice h.at' r.types.length h.ct, .int .i64 r.master, .slice h.ai r.items.length h.ci] ∧ Blk wr (w.heap.size + 1) [.int .i64 s.way, .int .i64 s.pal.wd, .int .i64 s.pal.dp, .int .i64 s.pal.ht, .int .i64 s.pal.gram, .int .i64 s.classes, .slice g.ap s.pairs.length g.cp, .slice g.at' s.types.length g.ct, .int .i64 s.master, .slice g.ai s.items.length g.ci] ∧ w.heap.size + 1 < wr.heap.size ∧ Below w.heap.size w wr) (fun i _ => r.pairs.length - (intOf i).toNat)
  case atStart => exact ⟨0, Nat.zero_le _, rfl, rfl, (Blk.allocAt [.int .i64 r.way, .int .i64 r.pal.wd, .int .i64 r.pal.dp, .int .i64 r.pal.ht, .int .i64 r.pal.gram, .int .i64 r.classes, .slice h.ap r.pairs.length h.cp, .slice h.at' r.types.length h.ct, .int .i64 r.master, .slice h.ai r.items.length h.ci] (by simp)).allocOld (by simp) _, Blk.allocAt [.int .i64 s.way, .int .i64 s.pal.wd, .int .i64 s.pal.dp, .int .i64 s.pal.ht, .int .i64 s.pal.gram, .int .i64 s.classes, .slice g.ap s.pairs.length g.cp, .slice g.at' s.types.length g.ct, .int .i64 s.master, .slice g.ai s.items.length g.ci] (by simp), by simp, ((Below.refl _ _).alloc (Nat.le_refl _) _).alloc (by simp) _⟩
  case round =>
    obtain ⟨k0, hk0, rfl, htk, hA, hB, hz, hbel⟩ := hrel
    have pu6 : wr.cell? ⟨w.heap.size, 6, none⟩ = some (.slice h.ap r.pairs.length h.cp) := (hA 6 (by simp)).1
    have pv6 : wr.cell? ⟨w.heap.size + 1, 6, none⟩ = some (.slice g.ap s.pairs.length g.cp) := (hB 6 (by simp)).1
    have pu7 : wr.cell? ⟨w.heap.size, 7, none⟩ = some (.slice h.at' r.types.length h.ct) := (hA 7 (by simp)).1
    have pv7 : wr.cell? ⟨w.heap.size + 1, 7, none⟩ = some (.slice g.at' s.types.length g.ct) := (hB 7 (by simp)).1
    have pu9 : wr.cell? ⟨w.heap.size, 9, none⟩ = some (.slice h.ai r.items.length h.ci) := (hA 9 (by simp)).1
    have pv9 : wr.cell? ⟨w.heap.size + 1, 9, none⟩ = some (.slice g.ai s.items.length g.ci) := (hB 9 (by simp)).1
    have HA := hide hA
    have HB := hide hB
    have HW := hide hbel
    have HT := hide htk
    have hp := (hr.mono hbel).1
    have hq := (hg.mono hbel).1
    clear hA hB hbel htk
    by_cases hlt0 : k0 < r.pairs.length
    case pos =>
      have lt2 : k0 < s.pairs.length := by rw [← unhide N0]; exact hlt0
      obtain ⟨b, off, hap, hc⟩ := hp.2 k0 hlt0
      obtain ⟨b', off', hap', hc'⟩ := hq.2 k0 lt2
      rw [hap] at pu6
      rw [hap'] at pv6
      clear hap hap' hp hq
      by_cases hxy : r.pairs.getD k0 default = s.pairs.getD k0 default
      case neg =>
        have HN : Hid (decide (r = s) = false) := decide_eq_false (fun e => hxy (by rw [e]))
        generalize r.pairs.getD k0 default = x at hc hxy
        generalize s.pairs.getD k0 default = y at hc' hxy
        have d0 : wr.cell? ⟨b, off + k0 * 2, none⟩ = some (.int .i64 x.a) := hc 0 (by omega)
        have d1 : wr.cell? ⟨b, off + k0 * 2 + 1, none⟩ = some (.int .i64 x.b) := hc 1 (by omega)
        have e0 : wr.cell? ⟨b', off' + k0 * 2, none⟩ = some (.int .i64 y.a) := hc' 0 (by omega)
        have e1 : wr.cell? ⟨b', off' + k0 * 2 + 1, none⟩ = some (.int .i64 y.b) := hc' 1 (by omega)
        clear hc hc' HT
        rcases PairV.part hxy with g0 | ⟨g0, g1⟩
        all_goals
          clear hxy
          go_wp2_with fail
          go_quiet (fail)
          go_wp2_with fail
          go_ret
          exact ⟨ret_same (unhide HN).symm, below_drewN (unhide HW) _⟩
      case pos =>
        have HT2 := hide (take_same hlt0 lt2 (unhide HT) hxy)
        generalize r.pairs.getD k0 default = x at hc hxy
        generalize s.pairs.getD k0 default = y at hc' hxy
        have d0 : wr.cell? ⟨b, off + k0 * 2, none⟩ = some (.int .i64 x.a) := hc 0 (by omega)
        have d1 : wr.cell? ⟨b, off + k0 * 2 + 1, none⟩ = some (.int .i64 x.b) := hc 1 (by omega)
        have e0 : wr.cell? ⟨b', off' + k0 * 2, none⟩ = some (.int .i64 y.a) := hc' 0 (by omega)
        have e1 : wr.cell? ⟨b', off' + k0 * 2 + 1, none⟩ = some (.int .i64 y.b) := hc' 1 (by omega)
        clear hc hc' HT
        obtain ⟨g0, g1⟩ := PairV.same hxy
        clear hxy
        go_wp2_with fail
        go_quiet (fail)
        go_wp2_with fail
        go_roundw
        case rel => exact ⟨k0 + 1, by omega, by go_num, unhide HT2, Blk.below (below_drewN (Below.refl _ _) _) (by omega) (unhide HA), Blk.below (below_drewN (Below.refl _ _) _) (by omega) (unhide HB), by (try simp); omega, below_drewN (unhide HW) _⟩
        case measure => simp [intOf]; omega
    have Q0 : Hid (r.pairs = s.pairs) := take_whole (by omega) (by rw [← unhide N0]; omega) (unhide HT)
    clear hp hq HT
    go_wp2_with fail
    go_loopw [6] (fun i wr => ∃ k : Nat, k ≤ r.types.length ∧ i = .int .i64 k ∧ r.types.take k = s.types.take k ∧ Blk wr w.heap.size [.int .i64 r.way, .int .i64 r.pal.wd, .int .i64 r.pal.dp, .int .i64 r.pal.ht, .int .i64 r.pal.gram, .int .i64 r.classes, .slice h.ap r.pairs.length h.cp, .slice h.at' r.types.length h.ct, .int .i64 r.master, .slice h.ai r.items.length h.ci] ∧ Blk wr (w.heap.size + 1) [.int .i64 s.way, .int .i64 s.pal.wd, .int .i64 s.pal.dp, .int .i64 s.pal.ht, .int .i64 s.pal.gram, .int .i64 s.classes, .slice g.ap s.pairs.length g.cp, .slice g.at' s.types.length g.ct, .int .i64 s.master, .slice g.ai s.items.length g.ci] ∧ w.heap.size + 1 < wr.heap.size ∧ Below w.heap.size w wr) (fun i _ => r.types.length - (intOf i).toNat)
    case atStart => exact ⟨0, Nat.zero_le _, rfl, rfl, unhide HA, unhide HB, hz, unhide HW⟩
    case round =>
      clear HA HB HW hz pu6 pv6 pu7 pv7 pu9 pv9
      obtain ⟨k1, hk1, rfl, htk, hA, hB, hz, hbel⟩ := hrel
      have pu7 : wr.cell? ⟨w.heap.size, 7, none⟩ = some (.slice h.at' r.types.length h.ct) := (hA 7 (by simp)).1
      have pv7 : wr.cell? ⟨w.heap.size + 1, 7, none⟩ = some (.slice g.at' s.types.length g.ct) := (hB 7 (by simp)).1
      have pu9 : wr.cell? ⟨w.heap.size, 9, none⟩ = some (.slice h.ai r.items.length h.ci) := (hA 9 (by simp)).1
      have pv9 : wr.cell? ⟨w.heap.size + 1, 9, none⟩ = some (.slice g.ai s.items.length g.ci) := (hB 9 (by simp)).1
      have HA := hide hA
      have HB := hide hB
      have HW := hide hbel
      have HT := hide htk
      have hp := (hr.mono hbel).2.1
      have hq := (hg.mono hbel).2.1
      clear hA hB hbel htk
      by_cases hlt1 : k1 < r.types.length
      case pos =>
        have lt2 : k1 < s.types.length := by rw [← unhide N1]; exact hlt1
        obtain ⟨b, off, hap, hc⟩ := hp.2 k1 hlt1
        obtain ⟨b', off', hap', hc'⟩ := hq.2 k1 lt2
        rw [hap] at pu7
        rw [hap'] at pv7
        clear hap hap' hp hq
        by_cases hxy : r.types.getD k1 default = s.types.getD k1 default
        case neg =>
          have HN : Hid (decide (r = s) = false) := decide_eq_false (fun e => hxy (by rw [e]))
          generalize r.types.getD k1 default = x at hc hxy
          generalize s.types.getD k1 default = y at hc' hxy
          have d0 : wr.cell? ⟨b, off + k1 * 7, none⟩ = some (.int .i64 x.id) := hc 0 (by omega)
          have d1 : wr.cell? ⟨b, off + k1 * 7 + 1, none⟩ = some (.int .i64 x.wd) := hc 1 (by omega)
          have d2 : wr.cell? ⟨b, off + k1 * 7 + 2, none⟩ = some (.int .i64 x.ht) := hc 2 (by omega)
          have d3 : wr.cell? ⟨b, off + k1 * 7 + 3, none⟩ = some (.int .i64 x.dp) := hc 3 (by omega)
          have d4 : wr.cell? ⟨b, off + k1 * 7 + 4, none⟩ = some (.int .i64 x.tare) := hc 4 (by omega)
          have d5 : wr.cell? ⟨b, off + k1 * 7 + 5, none⟩ = some (.int .i64 x.gram) := hc 5 (by omega)
          have d6 : wr.cell? ⟨b, off + k1 * 7 + 6, none⟩ = some (.int .i64 x.cost) := hc 6 (by omega)
          have e0 : wr.cell? ⟨b', off' + k1 * 7, none⟩ = some (.int .i64 y.id) := hc' 0 (by omega)
          have e1 : wr.cell? ⟨b', off' + k1 * 7 + 1, none⟩ = some (.int .i64 y.wd) := hc' 1 (by omega)
          have e2 : wr.cell? ⟨b', off' + k1 * 7 + 2, none⟩ = some (.int .i64 y.ht) := hc' 2 (by omega)
          have e3 : wr.cell? ⟨b', off' + k1 * 7 + 3, none⟩ = some (.int .i64 y.dp) := hc' 3 (by omega)
          have e4 : wr.cell? ⟨b', off' + k1 * 7 + 4, none⟩ = some (.int .i64 y.tare) := hc' 4 (by omega)
          have e5 : wr.cell? ⟨b', off' + k1 * 7 + 5, none⟩ = some (.int .i64 y.gram) := hc' 5 (by omega)
          have e6 : wr.cell? ⟨b', off' + k1 * 7 + 6, none⟩ = some (.int .i64 y.cost) := hc' 6 (by omega)
          clear hc hc' HT
          rcases TypeV.part hxy with g0 | ⟨g0, g1⟩ | ⟨g0, g1, g2⟩ | ⟨g0, g1, g2, g3⟩ | ⟨g0, g1, g2, g3, g4⟩ | ⟨g0, g1, g2, g3, g4, g5⟩ | ⟨g0, g1, g2, g3, g4, g5, g6⟩
          all_goals
            clear hxy
            go_wp2_with fail
            go_quiet (fail)
            go_wp2_with fail
            go_ret
            exact ⟨ret_same (unhide HN).symm, below_drewN (unhide HW) _⟩
        case pos =>
          have HT2 := hide (take_same hlt1 lt2 (unhide HT) hxy)
          generalize r.types.getD k1 default = x at hc hxy
          generalize s.types.getD k1 default = y at hc' hxy
          have d0 : wr.cell? ⟨b, off + k1 * 7, none⟩ = some (.int .i64 x.id) := hc 0 (by omega)
          have d1 : wr.cell? ⟨b, off + k1 * 7 + 1, none⟩ = some (.int .i64 x.wd) := hc 1 (by omega)
          have d2 : wr.cell? ⟨b, off + k1 * 7 + 2, none⟩ = some (.int .i64 x.ht) := hc 2 (by omega)
          have d3 : wr.cell? ⟨b, off + k1 * 7 + 3, none⟩ = some (.int .i64 x.dp) := hc 3 (by omega)
          have d4 : wr.cell? ⟨b, off + k1 * 7 + 4, none⟩ = some (.int .i64 x.tare) := hc 4 (by omega)
          have d5 : wr.cell? ⟨b, off + k1 * 7 + 5, none⟩ = some (.int .i64 x.gram) := hc 5 (by omega)
          have d6 : wr.cell? ⟨b, off + k1 * 7 + 6, none⟩ = some (.int .i64 x.cost) := hc 6 (by omega)
          have e0 : wr.cell? ⟨b', off' + k1 * 7, none⟩ = some (.int .i64 y.id) := hc' 0 (by omega)
          have e1 : wr.cell? ⟨b', off' + k1 * 7 + 1, none⟩ = some (.int .i64 y.wd) := hc' 1 (by omega)
          have e2 : wr.cell? ⟨b', off' + k1 * 7 + 2, none⟩ = some (.int .i64 y.ht) := hc' 2 (by omega)
          have e3 : wr.cell? ⟨b', off' + k1 * 7 + 3, none⟩ = some (.int .i64 y.dp) := hc' 3 (by omega)
          have e4 : wr.cell? ⟨b', off' + k1 * 7 + 4, none⟩ = some (.int .i64 y.tare) := hc' 4 (by omega)
          have e5 : wr.cell? ⟨b', off' + k1 * 7 + 5, none⟩ = some (.int .i64 y.gram) := hc' 5 (by omega)
          have e6 : wr.cell? ⟨b', off' + k1 * 7 + 6, none⟩ = some (.int .i64 y.cost) := hc' 6 (by omega)
          clear hc hc' HT
          obtain ⟨g0, g1, g2, g3, g4, g5, g6⟩ := TypeV.same hxy
          clear hxy
          go_wp2_with fail
          go_quiet (fail)
          go_wp2_with fail
          go_roundw
          case rel => exact ⟨k1 + 1, by omega, by go_num, unhide HT2, Blk.below (below_drewN (Below.refl _ _) _) (by omega) (unhide HA), Blk.below (below_drewN (Below.refl _ _) _) (by omega) (unhide HB), by (try simp); omega, below_drewN (unhide HW) _⟩
          case measure => simp [intOf]; omega
      have Q1 : Hid (r.types = s.types) := take_whole (by omega) (by rw [← unhide N1]; omega) (unhide HT)
      clear hp hq HT
      go_wp2_with fail
      go_loopw [7] (fun i wr => ∃ k : Nat, k ≤ r.items.length ∧ i = .int .i64 k ∧ r.items.take k = s.items.take k ∧ Blk wr w.heap.size [.int .i64 r.way, .int .i64 r.pal.wd, .int .i64 r.pal.dp, .int .i64 r.pal.ht, .int .i64 r.pal.gram, .int .i64 r.classes, .slice h.ap r.pairs.length h.cp, .slice h.at' r.types.length h.ct, .int .i64 r.master, .slice h.ai r.items.length h.ci] ∧ Blk wr (w.heap.size + 1) [.int .i64 s.way, .int .i64 s.pal.wd, .int .i64 s.pal.dp, .int .i64 s.pal.ht, .int .i64 s.pal.gram, .int .i64 s.classes, .slice g.ap s.pairs.length g.cp, .slice g.at' s.types.length g.ct, .int .i64 s.master, .slice g.ai s.items.length g.ci] ∧ w.heap.size + 1 < wr.heap.size ∧ Below w.heap.size w wr) (fun i _ => r.items.length - (intOf i).toNat)
      case atStart => exact ⟨0, Nat.zero_le _, rfl, rfl, unhide HA, unhide HB, hz, unhide HW⟩
      case round =>
        clear HA HB HW hz pu7 pv7 pu9 pv9
        obtain ⟨k2, hk2, rfl, htk, hA, hB, hz, hbel⟩ := hrel
        have pu9 : wr.cell? ⟨w.heap.size, 9, none⟩ = some (.slice h.ai r.items.length h.ci) := (hA 9 (by simp)).1
        have pv9 : wr.cell? ⟨w.heap.size + 1, 9, none⟩ = some (.slice g.ai s.items.length g.ci) := (hB 9 (by simp)).1
        have HA := hide hA
        have HB := hide hB
        have HW := hide hbel
        have HT := hide htk
        have hp := (hr.mono hbel).2.2
        have hq := (hg.mono hbel).2.2
        clear hA hB hbel htk
        by_cases hlt2 : k2 < r.items.length
        case pos =>
          have lt2 : k2 < s.items.length := by rw [← unhide N2]; exact hlt2
          obtain ⟨b, off, hap, hc⟩ := hp.2 k2 hlt2
          obtain ⟨b', off', hap', hc'⟩ := hq.2 k2 lt2
          rw [hap] at pu9
          rw [hap'] at pv9
          clear hap hap' hp hq
          by_cases hxy : r.items.getD k2 default = s.items.getD k2 default
          case neg =>
            have HN : Hid (decide (r = s) = false) := decide_eq_false (fun e => hxy (by rw [e]))
            generalize r.items.getD k2 default = x at hc hxy
            generalize s.items.getD k2 default = y at hc' hxy
            have d0 : wr.cell? ⟨b, off + k2 * 7, none⟩ = some (.int .i64 x.id) := hc 0 (by omega)
            have d1 : wr.cell? ⟨b, off + k2 * 7 + 1, none⟩ = some (.int .i64 x.wd) := hc 1 (by omega)
            have d2 : wr.cell? ⟨b, off + k2 * 7 + 2, none⟩ = some (.int .i64 x.ht) := hc 2 (by omega)
            have d3 : wr.cell? ⟨b, off + k2 * 7 + 3, none⟩ = some (.int .i64 x.dp) := hc 3 (by omega)
            have d4 : wr.cell? ⟨b, off + k2 * 7 + 4, none⟩ = some (.int .i64 x.gram) := hc 4 (by omega)
            have d5 : wr.cell? ⟨b, off + k2 * 7 + 5, none⟩ = some (.int .i64 x.cls) := hc 5 (by omega)
            have d6 : wr.cell? ⟨b, off + k2 * 7 + 6, none⟩ = some (.int .i64 x.cnt) := hc 6 (by omega)
            have e0 : wr.cell? ⟨b', off' + k2 * 7, none⟩ = some (.int .i64 y.id) := hc' 0 (by omega)
            have e1 : wr.cell? ⟨b', off' + k2 * 7 + 1, none⟩ = some (.int .i64 y.wd) := hc' 1 (by omega)
            have e2 : wr.cell? ⟨b', off' + k2 * 7 + 2, none⟩ = some (.int .i64 y.ht) := hc' 2 (by omega)
            have e3 : wr.cell? ⟨b', off' + k2 * 7 + 3, none⟩ = some (.int .i64 y.dp) := hc' 3 (by omega)
            have e4 : wr.cell? ⟨b', off' + k2 * 7 + 4, none⟩ = some (.int .i64 y.gram) := hc' 4 (by omega)
            have e5 : wr.cell? ⟨b', off' + k2 * 7 + 5, none⟩ = some (.int .i64 y.cls) := hc' 5 (by omega)
            have e6 : wr.cell? ⟨b', off' + k2 * 7 + 6, none⟩ = some (.int .i64 y.cnt) := hc' 6 (by omega)
            clear hc hc' HT
            rcases ItemV.part hxy with g0 | ⟨g0, g1⟩ | ⟨g0, g1, g2⟩ | ⟨g0, g1, g2, g3⟩ | ⟨g0, g1, g2, g3, g4⟩ | ⟨g0, g1, g2, g3, g4, g5⟩ | ⟨g0, g1, g2, g3, g4, g5, g6⟩
            all_goals
              clear hxy
              go_wp2_with fail
              go_quiet (fail)
              go_wp2_with fail
              go_ret
              exact ⟨ret_same (unhide HN).symm, below_drewN (unhide HW) _⟩
          case pos =>
            have HT2 := hide (take_same hlt2 lt2 (unhide HT) hxy)
            generalize r.items.getD k2 default = x at hc hxy
            generalize s.items.getD k2 default = y at hc' hxy
            have d0 : wr.cell? ⟨b, off + k2 * 7, none⟩ = some (.int .i64 x.id) := hc 0 (by omega)
            have d1 : wr.cell? ⟨b, off + k2 * 7 + 1, none⟩ = some (.int .i64 x.wd) := hc 1 (by omega)
            have d2 : wr.cell? ⟨b, off + k2 * 7 + 2, none⟩ = some (.int .i64 x.ht) := hc 2 (by omega)
            have d3 : wr.cell? ⟨b, off + k2 * 7 + 3, none⟩ = some (.int .i64 x.dp) := hc 3 (by omega)
            have d4 : wr.cell? ⟨b, off + k2 * 7 + 4, none⟩ = some (.int .i64 x.gram) := hc 4 (by omega)
            have d5 : wr.cell? ⟨b, off + k2 * 7 + 5, none⟩ = some (.int .i64 x.cls) := hc 5 (by omega)
            have d6 : wr.cell? ⟨b, off + k2 * 7 + 6, none⟩ = some (.int .i64 x.cnt) := hc 6 (by omega)
            have e0 : wr.cell? ⟨b', off' + k2 * 7, none⟩ = some (.int .i64 y.id) := hc' 0 (by omega)
            have e1 : wr.cell? ⟨b', off' + k2 * 7 + 1, none⟩ = some (.int .i64 y.wd) := hc' 1 (by omega)
            have e2 : wr.cell? ⟨b', off' + k2 * 7 + 2, none⟩ = some (.int .i64 y.ht) := hc' 2 (by omega)
            have e3 : wr.cell? ⟨b', off' + k2 * 7 + 3, none⟩ = some (.int .i64 y.dp) := hc' 3 (by omega)
            have e4 : wr.cell? ⟨b', off' + k2 * 7 + 4, none⟩ = some (.int .i64 y.gram) := hc' 4 (by omega)
            have e5 : wr.cell? ⟨b', off' + k2 * 7 + 5, none⟩ = some (.int .i64 y.cls) := hc' 5 (by omega)
            have e6 : wr.cell? ⟨b', off' + k2 * 7 + 6, none⟩ = some (.int .i64 y.cnt) := hc' 6 (by omega)
            clear hc hc' HT
            obtain ⟨g0, g1, g2, g3, g4, g5, g6⟩ := ItemV.same hxy
            clear hxy
            go_wp2_with fail
            go_quiet (fail)
            go_wp2_with fail
            go_roundw
            case rel => exact ⟨k2 + 1, by omega, by go_num, unhide HT2, Blk.below (below_drewN (Below.refl _ _) _) (by omega) (unhide HA), Blk.below (below_drewN (Below.refl _ _) _) (by omega) (unhide HB), by (try simp); omega, below_drewN (unhide HW) _⟩
            case measure => simp [intOf]; omega
        have Q2 : Hid (r.items = s.items) := take_whole (by omega) (by rw [← unhide N2]; omega) (unhide HT)
        clear hp hq HT
        go_wp2_with fail
        have HE : Hid (decide (r = s) = true) := decide_eq_true (ReqV.ext_of (unhide E1) (unhide E2) (unhide E3) (unhide Q0) (unhide Q1) (unhide E4) (unhide Q2))
        go_ret
        exact ⟨ret_same (unhide HE).symm, unhide HW⟩
end Go.Proofs.Ytkojbamogndhcab
