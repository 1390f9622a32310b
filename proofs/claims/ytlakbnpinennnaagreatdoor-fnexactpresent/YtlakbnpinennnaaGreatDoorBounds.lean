/- BoundsOk of the program. -/
import Derived.Test.YtlakbnpinennnaaGreatDoorItemOk
import Derived.Test.YtlakbnpinennnaaGreatDoorReq
namespace Go.Proofs.YtlakbnpinennnaaGreatDoor
open Go.RowKit
set_option linter.unusedVariables false

def pairB (p : PairV) : Bool := inB p.a 0 3 && inB p.b 0 3
def TypeV.ok (t : TypeV) : Bool := typeB t.id t.wd t.ht t.dp t.tare t.gram t.cost
def ItemV.ok (t : ItemV) : Bool := itemB t.id t.wd t.ht t.dp t.gram t.cls t.cnt
def PalletV.ok (t : PalletV) : Bool := palletB t.wd t.dp t.ht t.gram
def cntSum (xs : List ItemV) : Int := (xs.map (·.cnt)).sum
def pairsB (xs : List PairV) : Bool := decide (xs.length ≤ 16) && xs.all pairB
def typesB (xs : List TypeV) : Bool := inB xs.length 1 5 && xs.all TypeV.ok
def itemsB (xs : List ItemV) : Bool := decide (xs.length ≤ 8) && (xs.all ItemV.ok && decide (cntSum xs ≤ 12))
def boundsB (r : ReqV) : Bool := inB r.way 0 1 && r.pal.ok && inB r.classes 1 4 && pairsB r.pairs && typesB r.types && inB r.master 0 999 && itemsB r.items

theorem all_step {α : Type} [Inhabited α] (f : α → Bool) (xs : List α) (k : Nat) (h : k < xs.length) (h0 : (xs.take k).all f = true) (h1 : f (xs.getD k default) = true) : (xs.take (k + 1)).all f = true := by
  rw [List.take_succ_eq_append_getElem h, List.all_append, h0]
  simpa [h] using h1
theorem all_fell {α : Type} [Inhabited α] (f : α → Bool) (xs : List α) (k : Nat) (h : k < xs.length) (h1 : f (xs.getD k default) = false) : xs.all f = false := by
  rw [List.all_eq_false]
  exact ⟨xs[k], List.getElem_mem _, by simpa [h] using h1⟩
theorem all_whole {α : Type} (f : α → Bool) (xs : List α) (k : Nat) (h : xs.length ≤ k) (h0 : (xs.take k).all f = true) : xs.all f = true := by
  rwa [List.take_of_length_le h] at h0
theorem ret_bool {a b : Bool} (h : a = b) : Ending.returned (.bool a) = .returned (.bool b) := by rw [h]
theorem pairsB_long {xs : List PairV} (h : ¬ xs.length ≤ 16) : pairsB xs = false := by simp [pairsB, h]
theorem pairsB_fell {xs : List PairV} (h : xs.all pairB = false) : pairsB xs = false := by simp [pairsB, h]
theorem pairsB_true {xs : List PairV} (h0 : xs.length ≤ 16) (h : xs.all pairB = true) : pairsB xs = true := by simp [pairsB, h, h0]
theorem typesB_long {xs : List TypeV} (h : inB xs.length 1 5 = false) : typesB xs = false := by simp [typesB, h]
theorem typesB_fell {xs : List TypeV} (h : xs.all TypeV.ok = false) : typesB xs = false := by simp [typesB, h]
theorem typesB_true {xs : List TypeV} (h0 : inB xs.length 1 5 = true) (h : xs.all TypeV.ok = true) : typesB xs = true := by simp [typesB, h, h0]
theorem itemsB_long {xs : List ItemV} (h : ¬ xs.length ≤ 8) : itemsB xs = false := by simp [itemsB, h]
theorem itemsB_fell {xs : List ItemV} (h : xs.all ItemV.ok = false) : itemsB xs = false := by simp [itemsB, h]
theorem itemsB_end {xs : List ItemV} (h0 : xs.length ≤ 8) (h : xs.all ItemV.ok = true) : itemsB xs = decide (cntSum xs ≤ 12) := by simp [itemsB, h, h0]
theorem item_cnt {q : ItemV} (h : q.ok = true) : 1 ≤ q.cnt ∧ q.cnt ≤ 6 := by
  simp only [ItemV.ok, itemB, Bool.and_eq_true] at h
  exact inB_iff.1 h.2
theorem cntSum_snoc (l : List ItemV) (x : ItemV) : cntSum (l ++ [x]) = cntSum l + x.cnt := by simp [cntSum, List.sum_append]
theorem cntSum_step (xs : List ItemV) (k : Nat) (h : k < xs.length) : cntSum (xs.take (k + 1)) = cntSum (xs.take k) + (xs.getD k default).cnt := by
  rw [List.take_succ_eq_append_getElem h, cntSum_snoc]
  simp [h]
theorem cntSum_bd (xs : List ItemV) (h : xs.all ItemV.ok = true) : 0 ≤ cntSum xs ∧ cntSum xs ≤ 6 * xs.length := by
  induction xs with
  | nil => simp [cntSum]
  | cons x r ih =>
    simp only [List.all_cons, Bool.and_eq_true] at h
    have := item_cnt h.1
    have := ih h.2
    have e : cntSum (x :: r) = x.cnt + cntSum r := by simp [cntSum]
    rw [e, List.length_cons]
    omega

set_option maxHeartbeats 1000000 in
theorem pairsOk_any (a : Option Addr) (n c : Nat) (xs : List PairV) (w : World) (hr : RdR PairV.cells 2 w a n xs) (hn : n ≤ 1048576) :
    Calls Tryz.prog 132 #[.slice a n c] w fun e w' => e = .returned (.bool (pairsB xs)) ∧ Below w.heap.size w w' := by
  by_cases h16 : n ≤ 16
  case neg =>
    have HP := hide (pairsB_long (xs := xs) (by rw [hr.1]; exact h16))
    go_enter Tryz.func132, Tryz.ntmps132
    go_wp2
    go_ret
    exact ⟨ret_bool (unhide HP).symm, Below.refl _ _⟩
  go_enter Tryz.func132, Tryz.ntmps132
  go_wp2
  go_loopw [10] (fun i wr => ∃ k : Nat, k ≤ n ∧ i = .int .i64 k ∧ (xs.take k).all pairB = true ∧ Below w.heap.size w wr) (fun i _ => n - (intOf i).toNat)
  case atStart => exact ⟨0, Nat.zero_le _, rfl, rfl, Below.refl _ _⟩
  case round =>
    obtain ⟨k, hk, rfl, hall, hbel⟩ := hrel
    have HA := hide hall
    clear hall
    by_cases hlt : k < n
    · obtain ⟨b, off, rfl, hc⟩ := hr.2 k hlt
      have HS := hide (all_step pairB xs k (by rw [hr.1]; exact hlt) (unhide HA))
      have HF := hide (all_fell pairB xs k (by rw [hr.1]; exact hlt))
      generalize xs.getD k default = q at hc HS HF
      have d0 : wr.cell? ⟨b, off + k * 2, none⟩ = some (.int .i64 q.a) := (hbel.cell (World.block_lt_of_cell? w _ (hc 0 (by omega)))).trans (hc 0 (by omega))
      have d1 : wr.cell? ⟨b, off + k * 2 + 1, none⟩ = some (.int .i64 q.b) := (hbel.cell (World.block_lt_of_cell? w _ (hc 1 (by omega)))).trans (hc 1 (by omega))
      have HB := hide hbel
      clear hc hr hbel HA
      cases h1 : inB q.a 0 3
      · have HF' := hide (unhide HF (by simp [pairB, h1]))
        clear HF HS
        go_wp2_with ((go_at_call 41; refine (within_any _ _ _ _).mono ?_; rintro e w' ⟨rfl, hw⟩; subst w'))
        go_ret
        exact ⟨ret_bool (pairsB_fell (unhide HF')).symm, (unhide HB).alloc (unhide HB).size _⟩
      cases h2 : inB q.b 0 3
      · have HF' := hide (unhide HF (by simp [pairB, h2]))
        clear HF HS
        go_wp2_with ((go_at_call 41; refine (within_any _ _ _ _).mono ?_; rintro e w' ⟨rfl, hw⟩; subst w'))
        go_ret
        exact ⟨ret_bool (pairsB_fell (unhide HF')).symm, (unhide HB).alloc (unhide HB).size _⟩
      have HS' := hide (unhide HS (by simp [pairB, h1, h2]))
      clear HF HS
      go_wp2_with ((go_at_call 41; refine (within_any _ _ _ _).mono ?_; rintro e w' ⟨rfl, hw⟩; subst w'))
      go_roundw
      case rel => exact ⟨k + 1, by omega, by go_num, unhide HS', (unhide HB).alloc (unhide HB).size _⟩
      case measure => simp [intOf]; omega
    · have HW := hide (pairsB_true (by rw [hr.1]; exact h16) (all_whole pairB xs k (by rw [hr.1]; omega) (unhide HA)))
      go_wp2
      go_ret
      exact ⟨ret_bool (unhide HW).symm, hbel⟩

set_option maxHeartbeats 1000000 in
theorem typesOk_any (a : Option Addr) (n c : Nat) (xs : List TypeV) (w : World) (hr : RdR TypeV.cells 7 w a n xs) (hn : n ≤ 1048576) :
    Calls Tryz.prog 133 #[.slice a n c] w fun e w' => e = .returned (.bool (typesB xs)) ∧ Below w.heap.size w w' := by
  cases h16 : inB n 1 5
  case false =>
    have HP := hide (typesB_long (xs := xs) (by rw [hr.1]; exact h16))
    go_enter Tryz.func133, Tryz.ntmps133
    go_wp2_with ((go_at_call 41; refine (within_any _ _ _ _).mono ?_; rintro e w' ⟨rfl, hw⟩; subst w'))
    go_ret
    exact ⟨ret_bool (unhide HP).symm, Below.refl _ _⟩
  go_enter Tryz.func133, Tryz.ntmps133
  go_wp2_with ((go_at_call 41; refine (within_any _ _ _ _).mono ?_; rintro e w' ⟨rfl, hw⟩; subst w'))
  go_loopw [11] (fun i wr => ∃ k : Nat, k ≤ n ∧ i = .int .i64 k ∧ (xs.take k).all TypeV.ok = true ∧ Below w.heap.size w wr) (fun i _ => n - (intOf i).toNat)
  case atStart => exact ⟨0, Nat.zero_le _, rfl, rfl, Below.refl _ _⟩
  case round =>
    obtain ⟨k, hk, rfl, hall, hbel⟩ := hrel
    have HA := hide hall
    clear hall
    by_cases hlt : k < n
    · obtain ⟨b, off, rfl, hc⟩ := hr.2 k hlt
      have HS := hide (all_step TypeV.ok xs k (by rw [hr.1]; exact hlt) (unhide HA))
      have HF := hide (all_fell TypeV.ok xs k (by rw [hr.1]; exact hlt))
      generalize xs.getD k default = q at hc HS HF
      have d0 : wr.cell? ⟨b, off + k * 7, none⟩ = some (.int .i64 q.id) := (hbel.cell (World.block_lt_of_cell? w _ (hc 0 (by omega)))).trans (hc 0 (by omega))
      have d1 : wr.cell? ⟨b, off + k * 7 + 1, none⟩ = some (.int .i64 q.wd) := (hbel.cell (World.block_lt_of_cell? w _ (hc 1 (by omega)))).trans (hc 1 (by omega))
      have d2 : wr.cell? ⟨b, off + k * 7 + 2, none⟩ = some (.int .i64 q.ht) := (hbel.cell (World.block_lt_of_cell? w _ (hc 2 (by omega)))).trans (hc 2 (by omega))
      have d3 : wr.cell? ⟨b, off + k * 7 + 3, none⟩ = some (.int .i64 q.dp) := (hbel.cell (World.block_lt_of_cell? w _ (hc 3 (by omega)))).trans (hc 3 (by omega))
      have d4 : wr.cell? ⟨b, off + k * 7 + 4, none⟩ = some (.int .i64 q.tare) := (hbel.cell (World.block_lt_of_cell? w _ (hc 4 (by omega)))).trans (hc 4 (by omega))
      have d5 : wr.cell? ⟨b, off + k * 7 + 5, none⟩ = some (.int .i64 q.gram) := (hbel.cell (World.block_lt_of_cell? w _ (hc 5 (by omega)))).trans (hc 5 (by omega))
      have d6 : wr.cell? ⟨b, off + k * 7 + 6, none⟩ = some (.int .i64 q.cost) := (hbel.cell (World.block_lt_of_cell? w _ (hc 6 (by omega)))).trans (hc 6 (by omega))
      have HB := hide hbel
      clear hc hr hbel HA
      go_wp2_with fail
      refine (typeOk_any _ _ _ _ _ _ _ _).mono ?_
      rintro e w2 ⟨rfl, hb2⟩
      have HB2 : Hid (Below w.heap.size w w2) := ((unhide HB).alloc (unhide HB).size _).trans (hb2.mono (by have := (unhide HB).size; simp; omega))
      clear hb2
      cases h1 : typeB q.id q.wd q.ht q.dp q.tare q.gram q.cost
      · have HF' := hide (unhide HF h1)
        go_wp2_with fail
        go_ret
        exact ⟨ret_bool (typesB_fell (unhide HF')).symm, unhide HB2⟩
      · have HS' := hide (unhide HS h1)
        go_wp2_with fail
        go_roundw
        case rel => exact ⟨k + 1, by omega, by go_num, unhide HS', unhide HB2⟩
        case measure => simp [intOf]; omega
    · have HW := hide (typesB_true (by rw [hr.1]; exact h16) (all_whole TypeV.ok xs k (by rw [hr.1]; omega) (unhide HA)))
      go_wp2
      go_ret
      exact ⟨ret_bool (unhide HW).symm, hbel⟩

set_option maxHeartbeats 1000000 in
theorem itemsOk_any (a : Option Addr) (n c : Nat) (xs : List ItemV) (w : World) (hr : RdR ItemV.cells 7 w a n xs) (hn : n ≤ 1048576) :
    Calls Tryz.prog 134 #[.slice a n c] w fun e w' => e = .returned (.bool (itemsB xs)) ∧ Below w.heap.size w w' := by
  by_cases h16 : n ≤ 8
  case neg =>
    have HP := hide (itemsB_long (xs := xs) (by rw [hr.1]; exact h16))
    go_enter Tryz.func134, Tryz.ntmps134
    go_wp2
    go_ret
    exact ⟨ret_bool (unhide HP).symm, Below.refl _ _⟩
  go_enter Tryz.func134, Tryz.ntmps134
  go_wp2
  go_loopw [3, 11] (fun u i wr => ∃ k : Nat, k ≤ n ∧ i = .int .i64 k ∧ u = .int .i64 (cntSum (xs.take k)) ∧ (xs.take k).all ItemV.ok = true ∧ Below w.heap.size w wr) (fun _ i _ => n - (intOf i).toNat)
  case atStart => exact ⟨0, Nat.zero_le _, rfl, rfl, rfl, Below.refl _ _⟩
  case round =>
    obtain ⟨k, hk, rfl, rfl, hall, hbel⟩ := hrel
    obtain ⟨s0, s1⟩ := cntSum_bd _ hall
    have s2 : (xs.take k).length ≤ 8 := by rw [List.length_take]; omega
    have HA := hide hall
    clear hall
    by_cases hlt : k < n
    · obtain ⟨b, off, rfl, hc⟩ := hr.2 k hlt
      have HS := hide (all_step ItemV.ok xs k (by rw [hr.1]; exact hlt) (unhide HA))
      have HF := hide (all_fell ItemV.ok xs k (by rw [hr.1]; exact hlt))
      have HC := hide (cntSum_step xs k (by rw [hr.1]; exact hlt))
      have HQ := hide (fun h => item_cnt (q := xs.getD k default) h)
      generalize xs.getD k default = q at hc HS HF HC HQ
      generalize cntSum (xs.take k) = s at s0 s1 HC
      have d0 : wr.cell? ⟨b, off + k * 7, none⟩ = some (.int .i64 q.id) := (hbel.cell (World.block_lt_of_cell? w _ (hc 0 (by omega)))).trans (hc 0 (by omega))
      have d1 : wr.cell? ⟨b, off + k * 7 + 1, none⟩ = some (.int .i64 q.wd) := (hbel.cell (World.block_lt_of_cell? w _ (hc 1 (by omega)))).trans (hc 1 (by omega))
      have d2 : wr.cell? ⟨b, off + k * 7 + 2, none⟩ = some (.int .i64 q.ht) := (hbel.cell (World.block_lt_of_cell? w _ (hc 2 (by omega)))).trans (hc 2 (by omega))
      have d3 : wr.cell? ⟨b, off + k * 7 + 3, none⟩ = some (.int .i64 q.dp) := (hbel.cell (World.block_lt_of_cell? w _ (hc 3 (by omega)))).trans (hc 3 (by omega))
      have d4 : wr.cell? ⟨b, off + k * 7 + 4, none⟩ = some (.int .i64 q.gram) := (hbel.cell (World.block_lt_of_cell? w _ (hc 4 (by omega)))).trans (hc 4 (by omega))
      have d5 : wr.cell? ⟨b, off + k * 7 + 5, none⟩ = some (.int .i64 q.cls) := (hbel.cell (World.block_lt_of_cell? w _ (hc 5 (by omega)))).trans (hc 5 (by omega))
      have d6 : wr.cell? ⟨b, off + k * 7 + 6, none⟩ = some (.int .i64 q.cnt) := (hbel.cell (World.block_lt_of_cell? w _ (hc 6 (by omega)))).trans (hc 6 (by omega))
      have HB := hide hbel
      clear hc hr hbel HA
      go_wp2_with fail
      refine (itemOk_any _ _ _ _ _ _ _ _).mono ?_
      rintro e w2 ⟨rfl, hb2⟩
      have HB2 : Hid (Below w.heap.size w w2) := ((unhide HB).alloc (unhide HB).size _).trans (hb2.mono (by have := (unhide HB).size; simp; omega))
      have x6 := (Blk.below hb2 (by simp) (Blk.allocAt (ItemV.cells q) rfl) 6 (by simp [ItemV.cells])).1
      clear hb2
      cases h1 : itemB q.id q.wd q.ht q.dp q.gram q.cls q.cnt
      · have HF' := hide (unhide HF h1)
        go_wp2_with fail
        go_ret
        exact ⟨ret_bool (itemsB_fell (unhide HF')).symm, unhide HB2⟩
      · have HS' := hide (unhide HS h1)
        obtain ⟨c1, c2⟩ := unhide HQ h1
        have x6' : w2.cell? ⟨wr.heap.size, 6, none⟩ = some (.int .i64 q.cnt) := x6
        clear x6
        go_wp2_with fail
        go_roundw
        case rel => exact ⟨k + 1, by omega, by go_num, by rw [unhide HC], unhide HS', unhide HB2⟩
        case measure => simp [intOf]; omega
    · have HW := hide (itemsB_end (by rw [hr.1]; exact h16) (all_whole ItemV.ok xs k (by rw [hr.1]; omega) (unhide HA)))
      rw [List.take_of_length_le (show xs.length ≤ k by rw [hr.1]; omega)]
      clear HA s0 s1
      generalize cntSum xs = s at HW
      go_wp2
      go_ret
      exact ⟨ret_bool (unhide HW).symm, hbel⟩

end Go.Proofs.YtlakbnpinennnaaGreatDoor
