/- slices.Equal over structs of numbers, and RequestSame of the program: each answers whether both are the same. -/
import Derived.Test.YtkojbamogndhcaaReq
import Derived.Laws.StructEq
namespace Go.Proofs.Ytkojbamogndhcaa
open Go.RowKit
set_option linter.unusedVariables false
theorem ret_same {a b : Bool} (h : a = b) : Ending.returned (.bool a) = .returned (.bool b) := by rw [h]
theorem take_same {α : Type} [Inhabited α] {xs ys : List α} {k : Nat} (h1 : k < xs.length) (h2 : k < ys.length) (h : xs.take k = ys.take k) (hq : xs.getD k default = ys.getD k default) : xs.take (k + 1) = ys.take (k + 1) := by
  rw [List.take_succ_eq_append_getElem h1, List.take_succ_eq_append_getElem h2, h]
  have e : xs[k] = ys[k] := by simpa [h1, h2] using hq
  rw [e]
theorem take_whole {α : Type} {xs ys : List α} {k : Nat} (h1 : xs.length ≤ k) (h2 : ys.length ≤ k) (h : xs.take k = ys.take k) : xs = ys := by
  rwa [List.take_of_length_le h1, List.take_of_length_le h2] at h
theorem beq_yes {x y : Int} (h : x = y) : (x == y) = true := by simp [h]
theorem beq_no {x y : Int} (h : ¬ x = y) : (x == y) = false := by simp [h]
theorem bne_yes {x y : Int} (h : x = y) : (x != y) = false := by simp [h]
theorem bne_no {x y : Int} (h : ¬ x = y) : (x != y) = true := by simp [h]
theorem PairV.part {p q : PairV} (h : p ≠ q) : (p.a == q.a) = false ∨ (p.a == q.a) = true ∧ (p.b == q.b) = false := by
  cases p; cases q
  simp only [ne_eq, PairV.mk.injEq, beq_eq_false_iff_ne, beq_iff_eq] at *
  omega
theorem PairV.same {p q : PairV} (h : p = q) : (p.a == q.a) = true ∧ (p.b == q.b) = true := by
  subst h
  simp
theorem TypeV.part {p q : TypeV} (h : p ≠ q) : (p.id == q.id) = false ∨ (p.id == q.id) = true ∧ (p.wd == q.wd) = false ∨ (p.id == q.id) = true ∧ (p.wd == q.wd) = true ∧ (p.ht == q.ht) = false ∨ (p.id == q.id) = true ∧ (p.wd == q.wd) = true ∧ (p.ht == q.ht) = true ∧ (p.dp == q.dp) = false ∨ (p.id == q.id) = true ∧ (p.wd == q.wd) = true ∧ (p.ht == q.ht) = true ∧ (p.dp == q.dp) = true ∧ (p.tare == q.tare) = false ∨ (p.id == q.id) = true ∧ (p.wd == q.wd) = true ∧ (p.ht == q.ht) = true ∧ (p.dp == q.dp) = true ∧ (p.tare == q.tare) = true ∧ (p.gram == q.gram) = false ∨ (p.id == q.id) = true ∧ (p.wd == q.wd) = true ∧ (p.ht == q.ht) = true ∧ (p.dp == q.dp) = true ∧ (p.tare == q.tare) = true ∧ (p.gram == q.gram) = true ∧ (p.cost == q.cost) = false := by
  cases p; cases q
  simp only [ne_eq, TypeV.mk.injEq, beq_eq_false_iff_ne, beq_iff_eq] at *
  omega
theorem TypeV.same {p q : TypeV} (h : p = q) : (p.id == q.id) = true ∧ (p.wd == q.wd) = true ∧ (p.ht == q.ht) = true ∧ (p.dp == q.dp) = true ∧ (p.tare == q.tare) = true ∧ (p.gram == q.gram) = true ∧ (p.cost == q.cost) = true := by
  subst h
  simp
theorem ItemV.part {p q : ItemV} (h : p ≠ q) : (p.id == q.id) = false ∨ (p.id == q.id) = true ∧ (p.wd == q.wd) = false ∨ (p.id == q.id) = true ∧ (p.wd == q.wd) = true ∧ (p.ht == q.ht) = false ∨ (p.id == q.id) = true ∧ (p.wd == q.wd) = true ∧ (p.ht == q.ht) = true ∧ (p.dp == q.dp) = false ∨ (p.id == q.id) = true ∧ (p.wd == q.wd) = true ∧ (p.ht == q.ht) = true ∧ (p.dp == q.dp) = true ∧ (p.gram == q.gram) = false ∨ (p.id == q.id) = true ∧ (p.wd == q.wd) = true ∧ (p.ht == q.ht) = true ∧ (p.dp == q.dp) = true ∧ (p.gram == q.gram) = true ∧ (p.cls == q.cls) = false ∨ (p.id == q.id) = true ∧ (p.wd == q.wd) = true ∧ (p.ht == q.ht) = true ∧ (p.dp == q.dp) = true ∧ (p.gram == q.gram) = true ∧ (p.cls == q.cls) = true ∧ (p.cnt == q.cnt) = false := by
  cases p; cases q
  simp only [ne_eq, ItemV.mk.injEq, beq_eq_false_iff_ne, beq_iff_eq] at *
  omega
theorem ItemV.same {p q : ItemV} (h : p = q) : (p.id == q.id) = true ∧ (p.wd == q.wd) = true ∧ (p.ht == q.ht) = true ∧ (p.dp == q.dp) = true ∧ (p.gram == q.gram) = true ∧ (p.cls == q.cls) = true ∧ (p.cnt == q.cnt) = true := by
  subst h
  simp
theorem PalletV.part {p q : PalletV} (h : p ≠ q) : (p.wd == q.wd) = false ∨ (p.wd == q.wd) = true ∧ (p.dp == q.dp) = false ∨ (p.wd == q.wd) = true ∧ (p.dp == q.dp) = true ∧ (p.ht == q.ht) = false ∨ (p.wd == q.wd) = true ∧ (p.dp == q.dp) = true ∧ (p.ht == q.ht) = true ∧ (p.gram == q.gram) = false := by
  cases p; cases q
  simp only [ne_eq, PalletV.mk.injEq, beq_eq_false_iff_ne, beq_iff_eq] at *
  omega
theorem PalletV.same {p q : PalletV} (h : p = q) : (p.wd == q.wd) = true ∧ (p.dp == q.dp) = true ∧ (p.ht == q.ht) = true ∧ (p.gram == q.gram) = true := by
  subst h
  simp
theorem ReqV.ext_of {r s : ReqV} (h1 : r.way = s.way) (h2 : r.pal = s.pal) (h3 : r.classes = s.classes) (h4 : r.pairs = s.pairs) (h5 : r.types = s.types) (h6 : r.master = s.master) (h7 : r.items = s.items) : r = s := by
  cases r; cases s
  simp only at *
  subst h1 h2 h3 h4 h5 h6 h7
  rfl
set_option maxHeartbeats 2000000 in
theorem equalPair_any (a : Option Addr) (n c : Nat) (a' : Option Addr) (n' c' : Nat) (xs ys : List PairV) (w : World) (hr : RdR PairV.cells 2 w a n xs) (hr' : RdR PairV.cells 2 w a' n' ys) (hn : n ≤ 1048576) (hn' : n' ≤ 1048576) :
    Calls Try.prog 36 #[.slice a n c, .slice a' n' c'] w fun e w' => e = .returned (.bool (decide (xs = ys))) ∧ Below w.heap.size w w' := by
  by_cases hne : n = n'
  case neg =>
    have hb : ((n : Int) != (n' : Int)) = true := by rw [bne_iff_ne]; omega
    have HN : Hid (decide (xs = ys) = false) := decide_eq_false (fun e => hne (by rw [← hr.1, ← hr'.1, e]))
    go_enter Try.func36, Try.ntmps36
    go_wp2
    go_ret
    exact ⟨ret_same (unhide HN).symm, Below.refl _ _⟩
  subst hne
  have hb : ((n : Int) != (n : Int)) = false := by simp
  go_enter Try.func36, Try.ntmps36
  go_wp2
  go_loopw [13] (fun i wr => ∃ k : Nat, k ≤ n ∧ i = .int .i64 k ∧ xs.take k = ys.take k ∧ Below w.heap.size w wr) (fun i _ => n - (intOf i).toNat)
  case atStart => exact ⟨0, Nat.zero_le _, rfl, rfl, Below.refl _ _⟩
  case round =>
    obtain ⟨k, hk, rfl, htk, hbel⟩ := hrel
    have HT := hide htk
    clear htk
    by_cases hlt : k < n
    · obtain ⟨b, off, rfl, hc⟩ := hr.2 k hlt
      obtain ⟨b', off', rfl, hc'⟩ := hr'.2 k hlt
      by_cases hq : xs.getD k default = ys.getD k default
      case neg =>
        have HN : Hid (decide (xs = ys) = false) := decide_eq_false (fun e => hq (by rw [e]))
        generalize xs.getD k default = q at hc hq
        generalize ys.getD k default = p at hc' hq
        have d0 : wr.cell? ⟨b, off + k * 2, none⟩ = some (.int .i64 q.a) := (hbel.cell (World.block_lt_of_cell? w _ (hc 0 (by omega)))).trans (hc 0 (by omega))
        have d1 : wr.cell? ⟨b, off + k * 2 + 1, none⟩ = some (.int .i64 q.b) := (hbel.cell (World.block_lt_of_cell? w _ (hc 1 (by omega)))).trans (hc 1 (by omega))
        have e0 : wr.cell? ⟨b', off' + k * 2, none⟩ = some (.int .i64 p.a) := (hbel.cell (World.block_lt_of_cell? w _ (hc' 0 (by omega)))).trans (hc' 0 (by omega))
        have e1 : wr.cell? ⟨b', off' + k * 2 + 1, none⟩ = some (.int .i64 p.b) := (hbel.cell (World.block_lt_of_cell? w _ (hc' 1 (by omega)))).trans (hc' 1 (by omega))
        have HB := hide hbel
        clear hc hc' hr hr' HT hbel
        rcases PairV.part hq with g0 | ⟨g0, g1⟩
        all_goals
          clear hq
          go_wp2
          go_quiet (fail)
          go_wp2
          go_ret
          exact ⟨ret_same (unhide HN).symm, below_drewN (unhide HB) _⟩
      case pos =>
        have HT' := hide (take_same (by rw [hr.1]; exact hlt) (by rw [hr'.1]; exact hlt) (unhide HT) hq)
        generalize xs.getD k default = q at hc hq
        generalize ys.getD k default = p at hc' hq
        have d0 : wr.cell? ⟨b, off + k * 2, none⟩ = some (.int .i64 q.a) := (hbel.cell (World.block_lt_of_cell? w _ (hc 0 (by omega)))).trans (hc 0 (by omega))
        have d1 : wr.cell? ⟨b, off + k * 2 + 1, none⟩ = some (.int .i64 q.b) := (hbel.cell (World.block_lt_of_cell? w _ (hc 1 (by omega)))).trans (hc 1 (by omega))
        have e0 : wr.cell? ⟨b', off' + k * 2, none⟩ = some (.int .i64 p.a) := (hbel.cell (World.block_lt_of_cell? w _ (hc' 0 (by omega)))).trans (hc' 0 (by omega))
        have e1 : wr.cell? ⟨b', off' + k * 2 + 1, none⟩ = some (.int .i64 p.b) := (hbel.cell (World.block_lt_of_cell? w _ (hc' 1 (by omega)))).trans (hc' 1 (by omega))
        have HB := hide hbel
        clear hc hc' hr hr' HT hbel
        obtain ⟨g0, g1⟩ := PairV.same hq
        clear hq
        go_wp2
        go_quiet (fail)
        go_wp2
        go_roundw
        case rel => exact ⟨k + 1, by omega, by go_num, unhide HT', below_drewN (unhide HB) _⟩
        case measure => simp [intOf]; omega
    · have HE : Hid (decide (xs = ys) = true) := decide_eq_true (take_whole (by rw [hr.1]; omega) (by rw [hr'.1]; omega) (unhide HT))
      go_wp2
      go_ret
      exact ⟨ret_same (unhide HE).symm, hbel⟩
set_option maxHeartbeats 2000000 in
theorem equalType_any (a : Option Addr) (n c : Nat) (a' : Option Addr) (n' c' : Nat) (xs ys : List TypeV) (w : World) (hr : RdR TypeV.cells 7 w a n xs) (hr' : RdR TypeV.cells 7 w a' n' ys) (hn : n ≤ 1048576) (hn' : n' ≤ 1048576) :
    Calls Try.prog 37 #[.slice a n c, .slice a' n' c'] w fun e w' => e = .returned (.bool (decide (xs = ys))) ∧ Below w.heap.size w w' := by
  by_cases hne : n = n'
  case neg =>
    have hb : ((n : Int) != (n' : Int)) = true := by rw [bne_iff_ne]; omega
    have HN : Hid (decide (xs = ys) = false) := decide_eq_false (fun e => hne (by rw [← hr.1, ← hr'.1, e]))
    go_enter Try.func37, Try.ntmps37
    go_wp2
    go_ret
    exact ⟨ret_same (unhide HN).symm, Below.refl _ _⟩
  subst hne
  have hb : ((n : Int) != (n : Int)) = false := by simp
  go_enter Try.func37, Try.ntmps37
  go_wp2
  go_loopw [13] (fun i wr => ∃ k : Nat, k ≤ n ∧ i = .int .i64 k ∧ xs.take k = ys.take k ∧ Below w.heap.size w wr) (fun i _ => n - (intOf i).toNat)
  case atStart => exact ⟨0, Nat.zero_le _, rfl, rfl, Below.refl _ _⟩
  case round =>
    obtain ⟨k, hk, rfl, htk, hbel⟩ := hrel
    have HT := hide htk
    clear htk
    by_cases hlt : k < n
    · obtain ⟨b, off, rfl, hc⟩ := hr.2 k hlt
      obtain ⟨b', off', rfl, hc'⟩ := hr'.2 k hlt
      by_cases hq : xs.getD k default = ys.getD k default
      case neg =>
        have HN : Hid (decide (xs = ys) = false) := decide_eq_false (fun e => hq (by rw [e]))
        generalize xs.getD k default = q at hc hq
        generalize ys.getD k default = p at hc' hq
        have d0 : wr.cell? ⟨b, off + k * 7, none⟩ = some (.int .i64 q.id) := (hbel.cell (World.block_lt_of_cell? w _ (hc 0 (by omega)))).trans (hc 0 (by omega))
        have d1 : wr.cell? ⟨b, off + k * 7 + 1, none⟩ = some (.int .i64 q.wd) := (hbel.cell (World.block_lt_of_cell? w _ (hc 1 (by omega)))).trans (hc 1 (by omega))
        have d2 : wr.cell? ⟨b, off + k * 7 + 2, none⟩ = some (.int .i64 q.ht) := (hbel.cell (World.block_lt_of_cell? w _ (hc 2 (by omega)))).trans (hc 2 (by omega))
        have d3 : wr.cell? ⟨b, off + k * 7 + 3, none⟩ = some (.int .i64 q.dp) := (hbel.cell (World.block_lt_of_cell? w _ (hc 3 (by omega)))).trans (hc 3 (by omega))
        have d4 : wr.cell? ⟨b, off + k * 7 + 4, none⟩ = some (.int .i64 q.tare) := (hbel.cell (World.block_lt_of_cell? w _ (hc 4 (by omega)))).trans (hc 4 (by omega))
        have d5 : wr.cell? ⟨b, off + k * 7 + 5, none⟩ = some (.int .i64 q.gram) := (hbel.cell (World.block_lt_of_cell? w _ (hc 5 (by omega)))).trans (hc 5 (by omega))
        have d6 : wr.cell? ⟨b, off + k * 7 + 6, none⟩ = some (.int .i64 q.cost) := (hbel.cell (World.block_lt_of_cell? w _ (hc 6 (by omega)))).trans (hc 6 (by omega))
        have e0 : wr.cell? ⟨b', off' + k * 7, none⟩ = some (.int .i64 p.id) := (hbel.cell (World.block_lt_of_cell? w _ (hc' 0 (by omega)))).trans (hc' 0 (by omega))
        have e1 : wr.cell? ⟨b', off' + k * 7 + 1, none⟩ = some (.int .i64 p.wd) := (hbel.cell (World.block_lt_of_cell? w _ (hc' 1 (by omega)))).trans (hc' 1 (by omega))
        have e2 : wr.cell? ⟨b', off' + k * 7 + 2, none⟩ = some (.int .i64 p.ht) := (hbel.cell (World.block_lt_of_cell? w _ (hc' 2 (by omega)))).trans (hc' 2 (by omega))
        have e3 : wr.cell? ⟨b', off' + k * 7 + 3, none⟩ = some (.int .i64 p.dp) := (hbel.cell (World.block_lt_of_cell? w _ (hc' 3 (by omega)))).trans (hc' 3 (by omega))
        have e4 : wr.cell? ⟨b', off' + k * 7 + 4, none⟩ = some (.int .i64 p.tare) := (hbel.cell (World.block_lt_of_cell? w _ (hc' 4 (by omega)))).trans (hc' 4 (by omega))
        have e5 : wr.cell? ⟨b', off' + k * 7 + 5, none⟩ = some (.int .i64 p.gram) := (hbel.cell (World.block_lt_of_cell? w _ (hc' 5 (by omega)))).trans (hc' 5 (by omega))
        have e6 : wr.cell? ⟨b', off' + k * 7 + 6, none⟩ = some (.int .i64 p.cost) := (hbel.cell (World.block_lt_of_cell? w _ (hc' 6 (by omega)))).trans (hc' 6 (by omega))
        have HB := hide hbel
        clear hc hc' hr hr' HT hbel
        rcases TypeV.part hq with g0 | ⟨g0, g1⟩ | ⟨g0, g1, g2⟩ | ⟨g0, g1, g2, g3⟩ | ⟨g0, g1, g2, g3, g4⟩ | ⟨g0, g1, g2, g3, g4, g5⟩ | ⟨g0, g1, g2, g3, g4, g5, g6⟩
        all_goals
          clear hq
          go_wp2
          go_quiet (fail)
          go_wp2
          go_ret
          exact ⟨ret_same (unhide HN).symm, below_drewN (unhide HB) _⟩
      case pos =>
        have HT' := hide (take_same (by rw [hr.1]; exact hlt) (by rw [hr'.1]; exact hlt) (unhide HT) hq)
        generalize xs.getD k default = q at hc hq
        generalize ys.getD k default = p at hc' hq
        have d0 : wr.cell? ⟨b, off + k * 7, none⟩ = some (.int .i64 q.id) := (hbel.cell (World.block_lt_of_cell? w _ (hc 0 (by omega)))).trans (hc 0 (by omega))
        have d1 : wr.cell? ⟨b, off + k * 7 + 1, none⟩ = some (.int .i64 q.wd) := (hbel.cell (World.block_lt_of_cell? w _ (hc 1 (by omega)))).trans (hc 1 (by omega))
        have d2 : wr.cell? ⟨b, off + k * 7 + 2, none⟩ = some (.int .i64 q.ht) := (hbel.cell (World.block_lt_of_cell? w _ (hc 2 (by omega)))).trans (hc 2 (by omega))
        have d3 : wr.cell? ⟨b, off + k * 7 + 3, none⟩ = some (.int .i64 q.dp) := (hbel.cell (World.block_lt_of_cell? w _ (hc 3 (by omega)))).trans (hc 3 (by omega))
        have d4 : wr.cell? ⟨b, off + k * 7 + 4, none⟩ = some (.int .i64 q.tare) := (hbel.cell (World.block_lt_of_cell? w _ (hc 4 (by omega)))).trans (hc 4 (by omega))
        have d5 : wr.cell? ⟨b, off + k * 7 + 5, none⟩ = some (.int .i64 q.gram) := (hbel.cell (World.block_lt_of_cell? w _ (hc 5 (by omega)))).trans (hc 5 (by omega))
        have d6 : wr.cell? ⟨b, off + k * 7 + 6, none⟩ = some (.int .i64 q.cost) := (hbel.cell (World.block_lt_of_cell? w _ (hc 6 (by omega)))).trans (hc 6 (by omega))
        have e0 : wr.cell? ⟨b', off' + k * 7, none⟩ = some (.int .i64 p.id) := (hbel.cell (World.block_lt_of_cell? w _ (hc' 0 (by omega)))).trans (hc' 0 (by omega))
        have e1 : wr.cell? ⟨b', off' + k * 7 + 1, none⟩ = some (.int .i64 p.wd) := (hbel.cell (World.block_lt_of_cell? w _ (hc' 1 (by omega)))).trans (hc' 1 (by omega))
        have e2 : wr.cell? ⟨b', off' + k * 7 + 2, none⟩ = some (.int .i64 p.ht) := (hbel.cell (World.block_lt_of_cell? w _ (hc' 2 (by omega)))).trans (hc' 2 (by omega))
        have e3 : wr.cell? ⟨b', off' + k * 7 + 3, none⟩ = some (.int .i64 p.dp) := (hbel.cell (World.block_lt_of_cell? w _ (hc' 3 (by omega)))).trans (hc' 3 (by omega))
        have e4 : wr.cell? ⟨b', off' + k * 7 + 4, none⟩ = some (.int .i64 p.tare) := (hbel.cell (World.block_lt_of_cell? w _ (hc' 4 (by omega)))).trans (hc' 4 (by omega))
        have e5 : wr.cell? ⟨b', off' + k * 7 + 5, none⟩ = some (.int .i64 p.gram) := (hbel.cell (World.block_lt_of_cell? w _ (hc' 5 (by omega)))).trans (hc' 5 (by omega))
        have e6 : wr.cell? ⟨b', off' + k * 7 + 6, none⟩ = some (.int .i64 p.cost) := (hbel.cell (World.block_lt_of_cell? w _ (hc' 6 (by omega)))).trans (hc' 6 (by omega))
        have HB := hide hbel
        clear hc hc' hr hr' HT hbel
        obtain ⟨g0, g1, g2, g3, g4, g5, g6⟩ := TypeV.same hq
        clear hq
        go_wp2
        go_quiet (fail)
        go_wp2
        go_roundw
        case rel => exact ⟨k + 1, by omega, by go_num, unhide HT', below_drewN (unhide HB) _⟩
        case measure => simp [intOf]; omega
    · have HE : Hid (decide (xs = ys) = true) := decide_eq_true (take_whole (by rw [hr.1]; omega) (by rw [hr'.1]; omega) (unhide HT))
      go_wp2
      go_ret
      exact ⟨ret_same (unhide HE).symm, hbel⟩
set_option maxHeartbeats 2000000 in
theorem equalItem_any (a : Option Addr) (n c : Nat) (a' : Option Addr) (n' c' : Nat) (xs ys : List ItemV) (w : World) (hr : RdR ItemV.cells 7 w a n xs) (hr' : RdR ItemV.cells 7 w a' n' ys) (hn : n ≤ 1048576) (hn' : n' ≤ 1048576) :
    Calls Try.prog 38 #[.slice a n c, .slice a' n' c'] w fun e w' => e = .returned (.bool (decide (xs = ys))) ∧ Below w.heap.size w w' := by
  by_cases hne : n = n'
  case neg =>
    have hb : ((n : Int) != (n' : Int)) = true := by rw [bne_iff_ne]; omega
    have HN : Hid (decide (xs = ys) = false) := decide_eq_false (fun e => hne (by rw [← hr.1, ← hr'.1, e]))
    go_enter Try.func38, Try.ntmps38
    go_wp2
    go_ret
    exact ⟨ret_same (unhide HN).symm, Below.refl _ _⟩
  subst hne
  have hb : ((n : Int) != (n : Int)) = false := by simp
  go_enter Try.func38, Try.ntmps38
  go_wp2
  go_loopw [13] (fun i wr => ∃ k : Nat, k ≤ n ∧ i = .int .i64 k ∧ xs.take k = ys.take k ∧ Below w.heap.size w wr) (fun i _ => n - (intOf i).toNat)
  case atStart => exact ⟨0, Nat.zero_le _, rfl, rfl, Below.refl _ _⟩
  case round =>
    obtain ⟨k, hk, rfl, htk, hbel⟩ := hrel
    have HT := hide htk
    clear htk
    by_cases hlt : k < n
    · obtain ⟨b, off, rfl, hc⟩ := hr.2 k hlt
      obtain ⟨b', off', rfl, hc'⟩ := hr'.2 k hlt
      by_cases hq : xs.getD k default = ys.getD k default
      case neg =>
        have HN : Hid (decide (xs = ys) = false) := decide_eq_false (fun e => hq (by rw [e]))
        generalize xs.getD k default = q at hc hq
        generalize ys.getD k default = p at hc' hq
        have d0 : wr.cell? ⟨b, off + k * 7, none⟩ = some (.int .i64 q.id) := (hbel.cell (World.block_lt_of_cell? w _ (hc 0 (by omega)))).trans (hc 0 (by omega))
        have d1 : wr.cell? ⟨b, off + k * 7 + 1, none⟩ = some (.int .i64 q.wd) := (hbel.cell (World.block_lt_of_cell? w _ (hc 1 (by omega)))).trans (hc 1 (by omega))
        have d2 : wr.cell? ⟨b, off + k * 7 + 2, none⟩ = some (.int .i64 q.ht) := (hbel.cell (World.block_lt_of_cell? w _ (hc 2 (by omega)))).trans (hc 2 (by omega))
        have d3 : wr.cell? ⟨b, off + k * 7 + 3, none⟩ = some (.int .i64 q.dp) := (hbel.cell (World.block_lt_of_cell? w _ (hc 3 (by omega)))).trans (hc 3 (by omega))
        have d4 : wr.cell? ⟨b, off + k * 7 + 4, none⟩ = some (.int .i64 q.gram) := (hbel.cell (World.block_lt_of_cell? w _ (hc 4 (by omega)))).trans (hc 4 (by omega))
        have d5 : wr.cell? ⟨b, off + k * 7 + 5, none⟩ = some (.int .i64 q.cls) := (hbel.cell (World.block_lt_of_cell? w _ (hc 5 (by omega)))).trans (hc 5 (by omega))
        have d6 : wr.cell? ⟨b, off + k * 7 + 6, none⟩ = some (.int .i64 q.cnt) := (hbel.cell (World.block_lt_of_cell? w _ (hc 6 (by omega)))).trans (hc 6 (by omega))
        have e0 : wr.cell? ⟨b', off' + k * 7, none⟩ = some (.int .i64 p.id) := (hbel.cell (World.block_lt_of_cell? w _ (hc' 0 (by omega)))).trans (hc' 0 (by omega))
        have e1 : wr.cell? ⟨b', off' + k * 7 + 1, none⟩ = some (.int .i64 p.wd) := (hbel.cell (World.block_lt_of_cell? w _ (hc' 1 (by omega)))).trans (hc' 1 (by omega))
        have e2 : wr.cell? ⟨b', off' + k * 7 + 2, none⟩ = some (.int .i64 p.ht) := (hbel.cell (World.block_lt_of_cell? w _ (hc' 2 (by omega)))).trans (hc' 2 (by omega))
        have e3 : wr.cell? ⟨b', off' + k * 7 + 3, none⟩ = some (.int .i64 p.dp) := (hbel.cell (World.block_lt_of_cell? w _ (hc' 3 (by omega)))).trans (hc' 3 (by omega))
        have e4 : wr.cell? ⟨b', off' + k * 7 + 4, none⟩ = some (.int .i64 p.gram) := (hbel.cell (World.block_lt_of_cell? w _ (hc' 4 (by omega)))).trans (hc' 4 (by omega))
        have e5 : wr.cell? ⟨b', off' + k * 7 + 5, none⟩ = some (.int .i64 p.cls) := (hbel.cell (World.block_lt_of_cell? w _ (hc' 5 (by omega)))).trans (hc' 5 (by omega))
        have e6 : wr.cell? ⟨b', off' + k * 7 + 6, none⟩ = some (.int .i64 p.cnt) := (hbel.cell (World.block_lt_of_cell? w _ (hc' 6 (by omega)))).trans (hc' 6 (by omega))
        have HB := hide hbel
        clear hc hc' hr hr' HT hbel
        rcases ItemV.part hq with g0 | ⟨g0, g1⟩ | ⟨g0, g1, g2⟩ | ⟨g0, g1, g2, g3⟩ | ⟨g0, g1, g2, g3, g4⟩ | ⟨g0, g1, g2, g3, g4, g5⟩ | ⟨g0, g1, g2, g3, g4, g5, g6⟩
        all_goals
          clear hq
          go_wp2
          go_quiet (fail)
          go_wp2
          go_ret
          exact ⟨ret_same (unhide HN).symm, below_drewN (unhide HB) _⟩
      case pos =>
        have HT' := hide (take_same (by rw [hr.1]; exact hlt) (by rw [hr'.1]; exact hlt) (unhide HT) hq)
        generalize xs.getD k default = q at hc hq
        generalize ys.getD k default = p at hc' hq
        have d0 : wr.cell? ⟨b, off + k * 7, none⟩ = some (.int .i64 q.id) := (hbel.cell (World.block_lt_of_cell? w _ (hc 0 (by omega)))).trans (hc 0 (by omega))
        have d1 : wr.cell? ⟨b, off + k * 7 + 1, none⟩ = some (.int .i64 q.wd) := (hbel.cell (World.block_lt_of_cell? w _ (hc 1 (by omega)))).trans (hc 1 (by omega))
        have d2 : wr.cell? ⟨b, off + k * 7 + 2, none⟩ = some (.int .i64 q.ht) := (hbel.cell (World.block_lt_of_cell? w _ (hc 2 (by omega)))).trans (hc 2 (by omega))
        have d3 : wr.cell? ⟨b, off + k * 7 + 3, none⟩ = some (.int .i64 q.dp) := (hbel.cell (World.block_lt_of_cell? w _ (hc 3 (by omega)))).trans (hc 3 (by omega))
        have d4 : wr.cell? ⟨b, off + k * 7 + 4, none⟩ = some (.int .i64 q.gram) := (hbel.cell (World.block_lt_of_cell? w _ (hc 4 (by omega)))).trans (hc 4 (by omega))
        have d5 : wr.cell? ⟨b, off + k * 7 + 5, none⟩ = some (.int .i64 q.cls) := (hbel.cell (World.block_lt_of_cell? w _ (hc 5 (by omega)))).trans (hc 5 (by omega))
        have d6 : wr.cell? ⟨b, off + k * 7 + 6, none⟩ = some (.int .i64 q.cnt) := (hbel.cell (World.block_lt_of_cell? w _ (hc 6 (by omega)))).trans (hc 6 (by omega))
        have e0 : wr.cell? ⟨b', off' + k * 7, none⟩ = some (.int .i64 p.id) := (hbel.cell (World.block_lt_of_cell? w _ (hc' 0 (by omega)))).trans (hc' 0 (by omega))
        have e1 : wr.cell? ⟨b', off' + k * 7 + 1, none⟩ = some (.int .i64 p.wd) := (hbel.cell (World.block_lt_of_cell? w _ (hc' 1 (by omega)))).trans (hc' 1 (by omega))
        have e2 : wr.cell? ⟨b', off' + k * 7 + 2, none⟩ = some (.int .i64 p.ht) := (hbel.cell (World.block_lt_of_cell? w _ (hc' 2 (by omega)))).trans (hc' 2 (by omega))
        have e3 : wr.cell? ⟨b', off' + k * 7 + 3, none⟩ = some (.int .i64 p.dp) := (hbel.cell (World.block_lt_of_cell? w _ (hc' 3 (by omega)))).trans (hc' 3 (by omega))
        have e4 : wr.cell? ⟨b', off' + k * 7 + 4, none⟩ = some (.int .i64 p.gram) := (hbel.cell (World.block_lt_of_cell? w _ (hc' 4 (by omega)))).trans (hc' 4 (by omega))
        have e5 : wr.cell? ⟨b', off' + k * 7 + 5, none⟩ = some (.int .i64 p.cls) := (hbel.cell (World.block_lt_of_cell? w _ (hc' 5 (by omega)))).trans (hc' 5 (by omega))
        have e6 : wr.cell? ⟨b', off' + k * 7 + 6, none⟩ = some (.int .i64 p.cnt) := (hbel.cell (World.block_lt_of_cell? w _ (hc' 6 (by omega)))).trans (hc' 6 (by omega))
        have HB := hide hbel
        clear hc hc' hr hr' HT hbel
        obtain ⟨g0, g1, g2, g3, g4, g5, g6⟩ := ItemV.same hq
        clear hq
        go_wp2
        go_quiet (fail)
        go_wp2
        go_roundw
        case rel => exact ⟨k + 1, by omega, by go_num, unhide HT', below_drewN (unhide HB) _⟩
        case measure => simp [intOf]; omega
    · have HE : Hid (decide (xs = ys) = true) := decide_eq_true (take_whole (by rw [hr.1]; omega) (by rw [hr'.1]; omega) (unhide HT))
      go_wp2
      go_ret
      exact ⟨ret_same (unhide HE).symm, hbel⟩
set_option maxHeartbeats 2000000 in
theorem requestSame_any (r s : ReqV) (h g : ReqH) (w : World) (hr : RdReq w r h) (hg : RdReq w s g) (hrs : r.small) (hss : s.small) :
    Calls Try.prog 13 #[reqVal r h, reqVal s g] w fun e w' => e = .returned (.bool (decide (r = s))) ∧ Below w.heap.size w w' := by
  unfold ReqV.small at hrs hss
  unfold reqVal
  by_cases e1 : r.way = s.way
  case neg =>
    have HN : Hid (decide (r = s) = false) := decide_eq_false (fun e => e1 (by rw [e]))
    have e1b := beq_no e1
    clear e1
    go_enter Try.func13, Try.ntmps13
    go_wp2_with fail
    go_ret
    exact ⟨ret_same (unhide HN).symm, ((Below.refl _ _).alloc (Nat.le_refl _) _).alloc (by simp) _⟩
  have e1b := beq_yes e1
  have E1 := hide e1
  clear e1
  by_cases e2 : r.pal = s.pal
  case neg =>
    have HN : Hid (decide (r = s) = false) := decide_eq_false (fun e => e2 (by rw [e]))
    rcases PalletV.part e2 with x0 | ⟨x0, x1⟩ | ⟨x0, x1, x2⟩ | ⟨x0, x1, x2, x3⟩
    all_goals
      clear e2
      go_enter Try.func13, Try.ntmps13
      go_wp2_with fail
      go_ret
      exact ⟨ret_same (unhide HN).symm, ((Below.refl _ _).alloc (Nat.le_refl _) _).alloc (by simp) _⟩
  obtain ⟨x0, x1, x2, x3⟩ := PalletV.same e2
  have E2 := hide e2
  clear e2
  by_cases e3 : r.classes = s.classes
  case neg =>
    have HN : Hid (decide (r = s) = false) := decide_eq_false (fun e => e3 (by rw [e]))
    have e3b := beq_no e3
    clear e3
    go_enter Try.func13, Try.ntmps13
    go_wp2_with fail
    go_ret
    exact ⟨ret_same (unhide HN).symm, ((Below.refl _ _).alloc (Nat.le_refl _) _).alloc (by simp) _⟩
  have e3b := beq_yes e3
  have E3 := hide e3
  clear e3
  by_cases e4 : r.master = s.master
  case neg =>
    have HN : Hid (decide (r = s) = false) := decide_eq_false (fun e => e4 (by rw [e]))
    have e4b := beq_no e4
    clear e4
    go_enter Try.func13, Try.ntmps13
    go_wp2_with fail
    go_ret
    exact ⟨ret_same (unhide HN).symm, ((Below.refl _ _).alloc (Nat.le_refl _) _).alloc (by simp) _⟩
  have e4b := beq_yes e4
  have E4 := hide e4
  clear e4
  go_enter Try.func13, Try.ntmps13
  go_wp2_with fail
  refine (equalPair_any _ _ _ _ _ _ r.pairs s.pairs _ ?ha1 ?hb1 (by omega) (by omega)).mono ?_
  case ha1 => exact (hr.mono (((Below.refl _ _).alloc (Nat.le_refl _) _).alloc (by simp) _)).1
  case hb1 => exact (hg.mono (((Below.refl _ _).alloc (Nat.le_refl _) _).alloc (by simp) _)).1
  rintro e w1 ⟨rfl, hb1⟩
  have H1 : Hid (Below w.heap.size w w1) := (((Below.refl w.heap.size w).alloc (Nat.le_refl _) _).alloc (by simp) _).trans (hb1.mono (by simp; omega))
  have z1 : w.heap.size + 1 < w1.heap.size := by have := hb1.size; simp at this; omega
  have A1 : Blk w1 w.heap.size [.int .i64 r.way, .int .i64 r.pal.wd, .int .i64 r.pal.dp, .int .i64 r.pal.ht, .int .i64 r.pal.gram, .int .i64 r.classes, .slice h.ap r.pairs.length h.cp, .slice h.at' r.types.length h.ct, .int .i64 r.master, .slice h.ai r.items.length h.ci] := Blk.below hb1 (by simp; omega) ((Blk.allocAt [.int .i64 r.way, .int .i64 r.pal.wd, .int .i64 r.pal.dp, .int .i64 r.pal.ht, .int .i64 r.pal.gram, .int .i64 r.classes, .slice h.ap r.pairs.length h.cp, .slice h.at' r.types.length h.ct, .int .i64 r.master, .slice h.ai r.items.length h.ci] (by simp)).allocOld (by simp) _)
  have B1 : Blk w1 (w.heap.size + 1) [.int .i64 s.way, .int .i64 s.pal.wd, .int .i64 s.pal.dp, .int .i64 s.pal.ht, .int .i64 s.pal.gram, .int .i64 s.classes, .slice g.ap s.pairs.length g.cp, .slice g.at' s.types.length g.ct, .int .i64 s.master, .slice g.ai s.items.length g.ci] := Blk.below hb1 (by simp) (Blk.allocAt [.int .i64 s.way, .int .i64 s.pal.wd, .int .i64 s.pal.dp, .int .i64 s.pal.ht, .int .i64 s.pal.gram, .int .i64 s.classes, .slice g.ap s.pairs.length g.cp, .slice g.at' s.types.length g.ct, .int .i64 s.master, .slice g.ai s.items.length g.ci] (by simp))
  have a1_7 : w1.cell? ⟨w.heap.size, 7, none⟩ = some (.slice h.at' r.types.length h.ct) := (A1 7 (by simp)).1
  have b1_7 : w1.cell? ⟨w.heap.size + 1, 7, none⟩ = some (.slice g.at' s.types.length g.ct) := (B1 7 (by simp)).1
  have a1_9 : w1.cell? ⟨w.heap.size, 9, none⟩ = some (.slice h.ai r.items.length h.ci) := (A1 9 (by simp)).1
  have b1_9 : w1.cell? ⟨w.heap.size + 1, 9, none⟩ = some (.slice g.ai s.items.length g.ci) := (B1 9 (by simp)).1
  have HA1 := hide A1
  have HB1 := hide B1
  clear hb1 A1 B1
  by_cases q1 : r.pairs = s.pairs
  case neg =>
    have HN : Hid (decide (r = s) = false) := decide_eq_false (fun e => q1 (by rw [e]))
    rw [decide_eq_false q1]
    clear q1
    go_wp2_with fail
    go_ret
    exact ⟨ret_same (unhide HN).symm, unhide H1⟩
  rw [decide_eq_true q1]
  have Q1 := hide q1
  clear q1
  go_wp2_with fail
  refine (equalType_any _ _ _ _ _ _ r.types s.types _ ?ha2 ?hb2 (by omega) (by omega)).mono ?_
  case ha2 => exact (hr.mono (unhide H1)).2.1
  case hb2 => exact (hg.mono (unhide H1)).2.1
  rintro e w2 ⟨rfl, hb2⟩
  clear a1_7 b1_7 a1_9 b1_9
  have H2 : Hid (Below w.heap.size w w2) := (unhide H1).trans (hb2.mono (unhide H1).size)
  have z2 : w1.heap.size ≤ w2.heap.size := hb2.size
  have A2 := Blk.below hb2 (by omega) (unhide HA1)
  have B2 := Blk.below hb2 (by omega) (unhide HB1)
  have a2_7 : w2.cell? ⟨w.heap.size, 7, none⟩ = some (.slice h.at' r.types.length h.ct) := (A2 7 (by simp)).1
  have b2_7 : w2.cell? ⟨w.heap.size + 1, 7, none⟩ = some (.slice g.at' s.types.length g.ct) := (B2 7 (by simp)).1
  have a2_9 : w2.cell? ⟨w.heap.size, 9, none⟩ = some (.slice h.ai r.items.length h.ci) := (A2 9 (by simp)).1
  have b2_9 : w2.cell? ⟨w.heap.size + 1, 9, none⟩ = some (.slice g.ai s.items.length g.ci) := (B2 9 (by simp)).1
  have HA2 := hide A2
  have HB2 := hide B2
  clear hb2 A2 B2
  by_cases q2 : r.types = s.types
  case neg =>
    have HN : Hid (decide (r = s) = false) := decide_eq_false (fun e => q2 (by rw [e]))
    rw [decide_eq_false q2]
    clear q2
    go_wp2_with fail
    go_ret
    exact ⟨ret_same (unhide HN).symm, unhide H2⟩
  rw [decide_eq_true q2]
  have Q2 := hide q2
  clear q2
  go_wp2_with fail
  refine (equalItem_any _ _ _ _ _ _ r.items s.items _ ?ha3 ?hb3 (by omega) (by omega)).mono ?_
  case ha3 => exact (hr.mono (unhide H2)).2.2
  case hb3 => exact (hg.mono (unhide H2)).2.2
  rintro e w3 ⟨rfl, hb3⟩
  clear a2_7 b2_7 a2_9 b2_9
  have H3 : Hid (Below w.heap.size w w3) := (unhide H2).trans (hb3.mono (unhide H2).size)
  have z3 : w2.heap.size ≤ w3.heap.size := hb3.size
  have A3 := Blk.below hb3 (by omega) (unhide HA2)
  have B3 := Blk.below hb3 (by omega) (unhide HB2)
  have a3_7 : w3.cell? ⟨w.heap.size, 7, none⟩ = some (.slice h.at' r.types.length h.ct) := (A3 7 (by simp)).1
  have b3_7 : w3.cell? ⟨w.heap.size + 1, 7, none⟩ = some (.slice g.at' s.types.length g.ct) := (B3 7 (by simp)).1
  have a3_9 : w3.cell? ⟨w.heap.size, 9, none⟩ = some (.slice h.ai r.items.length h.ci) := (A3 9 (by simp)).1
  have b3_9 : w3.cell? ⟨w.heap.size + 1, 9, none⟩ = some (.slice g.ai s.items.length g.ci) := (B3 9 (by simp)).1
  have HA3 := hide A3
  have HB3 := hide B3
  clear hb3 A3 B3
  by_cases q3 : r.items = s.items
  case neg =>
    have HN : Hid (decide (r = s) = false) := decide_eq_false (fun e => q3 (by rw [e]))
    rw [decide_eq_false q3]
    clear q3
    go_wp2_with fail
    go_ret
    exact ⟨ret_same (unhide HN).symm, unhide H3⟩
  rw [decide_eq_true q3]
  have Q3 := hide q3
  clear q3
  go_wp2_with fail
  have HE : Hid (decide (r = s) = true) := decide_eq_true (ReqV.ext_of (unhide E1) (unhide E2) (unhide E3) (unhide Q1) (unhide Q2) (unhide E4) (unhide Q3))
  go_ret
  exact ⟨ret_same (unhide HE).symm, unhide H3⟩
end Go.Proofs.Ytkojbamogndhcaa
