/- The least of all: the program. -/
import Derived.Test.YtphdeojiehigpaaGreatDoorCheapOr
import Derived.Deep.DeepMust
import Derived.Deep.DeepCutAuto
import Derived.Deep.RegionHeld3
namespace Go.Proofs.YtphdeojiehigpaaGreatDoor
open Go Go.RowKit
set_option linter.unusedVariables false
set_option linter.unusedSimpArgs false

set_option maxRecDepth 100000 in
set_option maxHeartbeats 4000000 in
theorem leastOf_any (a : Option Addr) (n c : Nat) (xs : List TypeV) (w : World) (hx : RdR TypeV.cells 7 w a n xs) (hn : n ≤ 1048600) :
    Calls Tryz.prog 54 #[.slice a n c, .func (.func 55) #[] #[]] w fun e w' => e = .returned (.tuple #[.agg #[.int .i64 ((leastT xs).getD TypeV.zero).id, .int .i64 ((leastT xs).getD TypeV.zero).wd, .int .i64 ((leastT xs).getD TypeV.zero).ht, .int .i64 ((leastT xs).getD TypeV.zero).dp, .int .i64 ((leastT xs).getD TypeV.zero).tare, .int .i64 ((leastT xs).getD TypeV.zero).gram, .int .i64 ((leastT xs).getD TypeV.zero).cost], .bool (leastT xs).isSome]) ∧ Below w.heap.size w w' := by
  have HX := hide hx
  have hxl := hx.1
  clear hx
  go_enter Tryz.func54, Tryz.ntmps54
  go_wp2_with fail
  have BW : Hid (Below w.heap.size w ((w.alloc (.cells #[.int .i64 0, .int .i64 0, .int .i64 0, .int .i64 0, .int .i64 0, .int .i64 0, .int .i64 0] 55)).alloc (.cells #[.int .i64 0, .int .i64 0, .int .i64 0, .int .i64 0, .int .i64 0, .int .i64 0, .int .i64 0] 55))) := (((Below.refl _ _).alloc (by simp) _).alloc (by simp) _)
  have KzW : Hid (Blk ((w.alloc (.cells #[.int .i64 0, .int .i64 0, .int .i64 0, .int .i64 0, .int .i64 0, .int .i64 0, .int .i64 0] 55)).alloc (.cells #[.int .i64 0, .int .i64 0, .int .i64 0, .int .i64 0, .int .i64 0, .int .i64 0, .int .i64 0] 55)) w.heap.size [.int .i64 0, .int .i64 0, .int .i64 0, .int .i64 0, .int .i64 0, .int .i64 0, .int .i64 0]) := ((Blk.allocAt (w := w) [.int .i64 0, .int .i64 0, .int .i64 0, .int .i64 0, .int .i64 0, .int .i64 0, .int .i64 0] (by simp)).allocOld (by simp) _)
  have ZzW : w.heap.size < ((w.alloc (.cells #[.int .i64 0, .int .i64 0, .int .i64 0, .int .i64 0, .int .i64 0, .int .i64 0, .int .i64 0] 55)).alloc (.cells #[.int .i64 0, .int .i64 0, .int .i64 0, .int .i64 0, .int .i64 0, .int .i64 0, .int .i64 0] 55)).heap.size := by simp <;> omega
  have Gz : w.heap.size ≤ w.heap.size := by omega
  have KmW : Hid (Blk ((w.alloc (.cells #[.int .i64 0, .int .i64 0, .int .i64 0, .int .i64 0, .int .i64 0, .int .i64 0, .int .i64 0] 55)).alloc (.cells #[.int .i64 0, .int .i64 0, .int .i64 0, .int .i64 0, .int .i64 0, .int .i64 0, .int .i64 0] 55)) (w.heap.size + 1) [.int .i64 0, .int .i64 0, .int .i64 0, .int .i64 0, .int .i64 0, .int .i64 0, .int .i64 0]) := (Blk.allocAt (w := (w.alloc (.cells #[.int .i64 0, .int .i64 0, .int .i64 0, .int .i64 0, .int .i64 0, .int .i64 0, .int .i64 0] 55))) [.int .i64 0, .int .i64 0, .int .i64 0, .int .i64 0, .int .i64 0, .int .i64 0, .int .i64 0] (by simp))
  have ZmW : (w.heap.size + 1) < ((w.alloc (.cells #[.int .i64 0, .int .i64 0, .int .i64 0, .int .i64 0, .int .i64 0, .int .i64 0, .int .i64 0] 55)).alloc (.cells #[.int .i64 0, .int .i64 0, .int .i64 0, .int .i64 0, .int .i64 0, .int .i64 0, .int .i64 0] 55)).heap.size := by simp
  have Gm : w.heap.size ≤ (w.heap.size + 1) := by omega
  have Nqzm : w.heap.size ≠ (w.heap.size + 1) := by omega
  have Nqmz : (w.heap.size + 1) ≠ w.heap.size := by omega
  generalize ((w.alloc (.cells #[.int .i64 0, .int .i64 0, .int .i64 0, .int .i64 0, .int .i64 0, .int .i64 0, .int .i64 0] 55)).alloc (.cells #[.int .i64 0, .int .i64 0, .int .i64 0, .int .i64 0, .int .i64 0, .int .i64 0, .int .i64 0] 55)) = W at *
  go_loopw [11] (fun i wr => ∃ (k : Nat) (m : TypeV), k ≤ n ∧ i = .int .i64 k ∧ (leastT (xs.take k)).getD TypeV.zero = m ∧ Blk wr w.heap.size [.int .i64 0, .int .i64 0, .int .i64 0, .int .i64 0, .int .i64 0, .int .i64 0, .int .i64 0] ∧ Blk wr (w.heap.size + 1) [.int .i64 m.id, .int .i64 m.wd, .int .i64 m.ht, .int .i64 m.dp, .int .i64 m.tare, .int .i64 m.gram, .int .i64 m.cost] ∧ w.heap.size + 1 < wr.heap.size ∧ Below w.heap.size w wr) (fun i _ => n - (intOf i).toNat)
  case atStart => exact ⟨0, TypeV.zero, Nat.zero_le _, rfl, rfl, unhide KzW, unhide KmW, ZmW, unhide BW⟩
  case round =>
    clear KzW KmW ZmW ZzW BW Nqzm Nqmz
    obtain ⟨k, m, hk, rfl, hm, kz, km, Zmwr, hb⟩ := hrel
    have Kzwr := hide kz
    have Kmwr := hide km
    have Zzwr : w.heap.size < wr.heap.size := by omega
    have Bwr := hide hb
    have HM := hide hm
    have Nqzm : w.heap.size ≠ w.heap.size + 1 := by omega
    clear kz km hm
    by_cases hlk : k < n
    case neg =>
      have hkn : k = n := by omega
      have HE : Hid ((leastT xs).getD TypeV.zero = m) := by have h1 := unhide HM; rwa [List.take_of_length_le (by omega)] at h1
      clear hb
      have m0 : wr.cell? ⟨w.heap.size + 1, 0, none⟩ = some (.int .i64 m.id) := ((unhide Kmwr) 0 (by simp)).1
      have m1 : wr.cell? ⟨w.heap.size + 1, 1, none⟩ = some (.int .i64 m.wd) := ((unhide Kmwr) 1 (by simp)).1
      have m2 : wr.cell? ⟨w.heap.size + 1, 2, none⟩ = some (.int .i64 m.ht) := ((unhide Kmwr) 2 (by simp)).1
      have m3 : wr.cell? ⟨w.heap.size + 1, 3, none⟩ = some (.int .i64 m.dp) := ((unhide Kmwr) 3 (by simp)).1
      have m4 : wr.cell? ⟨w.heap.size + 1, 4, none⟩ = some (.int .i64 m.tare) := ((unhide Kmwr) 4 (by simp)).1
      have m5 : wr.cell? ⟨w.heap.size + 1, 5, none⟩ = some (.int .i64 m.gram) := ((unhide Kmwr) 5 (by simp)).1
      have m6 : wr.cell? ⟨w.heap.size + 1, 6, none⟩ = some (.int .i64 m.cost) := ((unhide Kmwr) 6 (by simp)).1
      have z0 : wr.cell? ⟨w.heap.size, 0, none⟩ = some (.int .i64 0) := ((unhide Kzwr) 0 (by simp)).1
      have zf0 : wr.frozen? ⟨w.heap.size, 0, none⟩ = false := ((unhide Kzwr) 0 (by simp)).2
      have z1 : wr.cell? ⟨w.heap.size, 1, none⟩ = some (.int .i64 0) := ((unhide Kzwr) 1 (by simp)).1
      have zf1 : wr.frozen? ⟨w.heap.size, 1, none⟩ = false := ((unhide Kzwr) 1 (by simp)).2
      have z2 : wr.cell? ⟨w.heap.size, 2, none⟩ = some (.int .i64 0) := ((unhide Kzwr) 2 (by simp)).1
      have zf2 : wr.frozen? ⟨w.heap.size, 2, none⟩ = false := ((unhide Kzwr) 2 (by simp)).2
      have z3 : wr.cell? ⟨w.heap.size, 3, none⟩ = some (.int .i64 0) := ((unhide Kzwr) 3 (by simp)).1
      have zf3 : wr.frozen? ⟨w.heap.size, 3, none⟩ = false := ((unhide Kzwr) 3 (by simp)).2
      have z4 : wr.cell? ⟨w.heap.size, 4, none⟩ = some (.int .i64 0) := ((unhide Kzwr) 4 (by simp)).1
      have zf4 : wr.frozen? ⟨w.heap.size, 4, none⟩ = false := ((unhide Kzwr) 4 (by simp)).2
      have z5 : wr.cell? ⟨w.heap.size, 5, none⟩ = some (.int .i64 0) := ((unhide Kzwr) 5 (by simp)).1
      have zf5 : wr.frozen? ⟨w.heap.size, 5, none⟩ = false := ((unhide Kzwr) 5 (by simp)).2
      have z6 : wr.cell? ⟨w.heap.size, 6, none⟩ = some (.int .i64 0) := ((unhide Kzwr) 6 (by simp)).1
      have zf6 : wr.frozen? ⟨w.heap.size, 6, none⟩ = false := ((unhide Kzwr) 6 (by simp)).2
      have CC : Blk (((((((wr.setCell ⟨w.heap.size, 0, none⟩ (.int .i64 m.id)).setCell ⟨w.heap.size, 1, none⟩ (.int .i64 m.wd)).setCell ⟨w.heap.size, 2, none⟩ (.int .i64 m.ht)).setCell ⟨w.heap.size, 3, none⟩ (.int .i64 m.dp)).setCell ⟨w.heap.size, 4, none⟩ (.int .i64 m.tare)).setCell ⟨w.heap.size, 5, none⟩ (.int .i64 m.gram)).setCell ⟨w.heap.size, 6, none⟩ (.int .i64 m.cost)) w.heap.size [.int .i64 m.id, .int .i64 m.wd, .int .i64 m.ht, .int .i64 m.dp, .int .i64 m.tare, .int .i64 m.gram, .int .i64 m.cost] := Blk.fill7 (unhide Kzwr)
      have e0 : (((((((wr.setCell ⟨w.heap.size, 0, none⟩ (.int .i64 m.id)).setCell ⟨w.heap.size, 1, none⟩ (.int .i64 m.wd)).setCell ⟨w.heap.size, 2, none⟩ (.int .i64 m.ht)).setCell ⟨w.heap.size, 3, none⟩ (.int .i64 m.dp)).setCell ⟨w.heap.size, 4, none⟩ (.int .i64 m.tare)).setCell ⟨w.heap.size, 5, none⟩ (.int .i64 m.gram)).setCell ⟨w.heap.size, 6, none⟩ (.int .i64 m.cost)).cell? ⟨w.heap.size, 0, none⟩ = some (.int .i64 m.id) := (CC 0 (by simp)).1
      have e1 : (((((((wr.setCell ⟨w.heap.size, 0, none⟩ (.int .i64 m.id)).setCell ⟨w.heap.size, 1, none⟩ (.int .i64 m.wd)).setCell ⟨w.heap.size, 2, none⟩ (.int .i64 m.ht)).setCell ⟨w.heap.size, 3, none⟩ (.int .i64 m.dp)).setCell ⟨w.heap.size, 4, none⟩ (.int .i64 m.tare)).setCell ⟨w.heap.size, 5, none⟩ (.int .i64 m.gram)).setCell ⟨w.heap.size, 6, none⟩ (.int .i64 m.cost)).cell? ⟨w.heap.size, 1, none⟩ = some (.int .i64 m.wd) := (CC 1 (by simp)).1
      have e2 : (((((((wr.setCell ⟨w.heap.size, 0, none⟩ (.int .i64 m.id)).setCell ⟨w.heap.size, 1, none⟩ (.int .i64 m.wd)).setCell ⟨w.heap.size, 2, none⟩ (.int .i64 m.ht)).setCell ⟨w.heap.size, 3, none⟩ (.int .i64 m.dp)).setCell ⟨w.heap.size, 4, none⟩ (.int .i64 m.tare)).setCell ⟨w.heap.size, 5, none⟩ (.int .i64 m.gram)).setCell ⟨w.heap.size, 6, none⟩ (.int .i64 m.cost)).cell? ⟨w.heap.size, 2, none⟩ = some (.int .i64 m.ht) := (CC 2 (by simp)).1
      have e3 : (((((((wr.setCell ⟨w.heap.size, 0, none⟩ (.int .i64 m.id)).setCell ⟨w.heap.size, 1, none⟩ (.int .i64 m.wd)).setCell ⟨w.heap.size, 2, none⟩ (.int .i64 m.ht)).setCell ⟨w.heap.size, 3, none⟩ (.int .i64 m.dp)).setCell ⟨w.heap.size, 4, none⟩ (.int .i64 m.tare)).setCell ⟨w.heap.size, 5, none⟩ (.int .i64 m.gram)).setCell ⟨w.heap.size, 6, none⟩ (.int .i64 m.cost)).cell? ⟨w.heap.size, 3, none⟩ = some (.int .i64 m.dp) := (CC 3 (by simp)).1
      have e4 : (((((((wr.setCell ⟨w.heap.size, 0, none⟩ (.int .i64 m.id)).setCell ⟨w.heap.size, 1, none⟩ (.int .i64 m.wd)).setCell ⟨w.heap.size, 2, none⟩ (.int .i64 m.ht)).setCell ⟨w.heap.size, 3, none⟩ (.int .i64 m.dp)).setCell ⟨w.heap.size, 4, none⟩ (.int .i64 m.tare)).setCell ⟨w.heap.size, 5, none⟩ (.int .i64 m.gram)).setCell ⟨w.heap.size, 6, none⟩ (.int .i64 m.cost)).cell? ⟨w.heap.size, 4, none⟩ = some (.int .i64 m.tare) := (CC 4 (by simp)).1
      have e5 : (((((((wr.setCell ⟨w.heap.size, 0, none⟩ (.int .i64 m.id)).setCell ⟨w.heap.size, 1, none⟩ (.int .i64 m.wd)).setCell ⟨w.heap.size, 2, none⟩ (.int .i64 m.ht)).setCell ⟨w.heap.size, 3, none⟩ (.int .i64 m.dp)).setCell ⟨w.heap.size, 4, none⟩ (.int .i64 m.tare)).setCell ⟨w.heap.size, 5, none⟩ (.int .i64 m.gram)).setCell ⟨w.heap.size, 6, none⟩ (.int .i64 m.cost)).cell? ⟨w.heap.size, 5, none⟩ = some (.int .i64 m.gram) := (CC 5 (by simp)).1
      have e6 : (((((((wr.setCell ⟨w.heap.size, 0, none⟩ (.int .i64 m.id)).setCell ⟨w.heap.size, 1, none⟩ (.int .i64 m.wd)).setCell ⟨w.heap.size, 2, none⟩ (.int .i64 m.ht)).setCell ⟨w.heap.size, 3, none⟩ (.int .i64 m.dp)).setCell ⟨w.heap.size, 4, none⟩ (.int .i64 m.tare)).setCell ⟨w.heap.size, 5, none⟩ (.int .i64 m.gram)).setCell ⟨w.heap.size, 6, none⟩ (.int .i64 m.cost)).cell? ⟨w.heap.size, 6, none⟩ = some (.int .i64 m.cost) := (CC 6 (by simp)).1
      clear CC
      rcases Nat.eq_zero_or_pos n with h0 | h0
      · have HS : Hid ((leastT xs).isSome = false) := by rw [Hid, leastT_isSome, hxl, h0]; rfl
        subst h0
        obtain rfl : k = 0 := by omega
        clear hkn
        go_wp2
        refine bodyPost_ret (v := .tuple #[.agg #[.int .i64 m.id, .int .i64 m.wd, .int .i64 m.ht, .int .i64 m.dp, .int .i64 m.tare, .int .i64 m.gram, .int .i64 m.cost], .bool false]) (by simp [results, Tryz.results54, go_sem, e0, e1, e2, e3, e4, e5, e6]) rfl ⟨ret_type (unhide HE).symm (unhide HS).symm, ?_⟩
        exact below_fill7 (unhide Bwr) (Nat.le_refl _)
      · have HS : Hid ((leastT xs).isSome = true) := by rw [Hid, leastT_isSome, hxl]; exact decide_eq_true h0
        have hi0 : (0 : Int) < (n : Int) := by omega
        subst hkn
        go_wp2
        refine bodyPost_ret (v := .tuple #[.agg #[.int .i64 m.id, .int .i64 m.wd, .int .i64 m.ht, .int .i64 m.dp, .int .i64 m.tare, .int .i64 m.gram, .int .i64 m.cost], .bool true]) (by simp [results, Tryz.results54, go_sem, e0, e1, e2, e3, e4, e5, e6]) rfl ⟨ret_type (unhide HE).symm (unhide HS).symm, ?_⟩
        exact below_fill7 (unhide Bwr) (Nat.le_refl _)
    have HL1 := hide (fun h0 : k = 0 => least_first (l := xs) (by omega))
    have HLY := hide (fun (h0 : 0 < k) => least_yes (l := xs) (k := k) (m := m) (by omega) h0 (unhide HM))
    have HLN := hide (fun (h0 : 0 < k) => least_no (l := xs) (k := k) (m := m) (by omega) h0 (unhide HM))
    obtain ⟨b, off, hxa, hc⟩ := ((unhide HX).mono (by omega) TypeV.len hb).2 k hlk
    have HQ0 : Hid (k = 0 → xs.getD 0 default = xs.getD k default) := fun h => by rw [h]
    generalize xs.getD k default = q at hc HLY HLN HQ0
    subst hxa
    clear hb
    have d0 : wr.cell? ⟨b, off + k * 7, none⟩ = some (.int .i64 q.id) := hc 0 (by omega)
    have d1 : wr.cell? ⟨b, off + k * 7 + 1, none⟩ = some (.int .i64 q.wd) := hc 1 (by omega)
    have d2 : wr.cell? ⟨b, off + k * 7 + 2, none⟩ = some (.int .i64 q.ht) := hc 2 (by omega)
    have d3 : wr.cell? ⟨b, off + k * 7 + 3, none⟩ = some (.int .i64 q.dp) := hc 3 (by omega)
    have d4 : wr.cell? ⟨b, off + k * 7 + 4, none⟩ = some (.int .i64 q.tare) := hc 4 (by omega)
    have d5 : wr.cell? ⟨b, off + k * 7 + 5, none⟩ = some (.int .i64 q.gram) := hc 5 (by omega)
    have d6 : wr.cell? ⟨b, off + k * 7 + 6, none⟩ = some (.int .i64 q.cost) := hc 6 (by omega)
    clear hc
    by_cases hk0 : k = 0
    case pos =>
      have HE : Hid ((leastT (xs.take (0 + 1))).getD TypeV.zero = q) := by rw [Hid, (unhide HL1) hk0]; exact (unhide HQ0) hk0
      subst hk0
      simp only [Nat.zero_mul, Nat.add_zero] at d0 d1 d2 d3 d4 d5 d6
      have m0 : wr.cell? ⟨w.heap.size + 1, 0, none⟩ = some (.int .i64 m.id) := ((unhide Kmwr) 0 (by simp)).1
      have mf0 : wr.frozen? ⟨w.heap.size + 1, 0, none⟩ = false := ((unhide Kmwr) 0 (by simp)).2
      have m1 : wr.cell? ⟨w.heap.size + 1, 1, none⟩ = some (.int .i64 m.wd) := ((unhide Kmwr) 1 (by simp)).1
      have mf1 : wr.frozen? ⟨w.heap.size + 1, 1, none⟩ = false := ((unhide Kmwr) 1 (by simp)).2
      have m2 : wr.cell? ⟨w.heap.size + 1, 2, none⟩ = some (.int .i64 m.ht) := ((unhide Kmwr) 2 (by simp)).1
      have mf2 : wr.frozen? ⟨w.heap.size + 1, 2, none⟩ = false := ((unhide Kmwr) 2 (by simp)).2
      have m3 : wr.cell? ⟨w.heap.size + 1, 3, none⟩ = some (.int .i64 m.dp) := ((unhide Kmwr) 3 (by simp)).1
      have mf3 : wr.frozen? ⟨w.heap.size + 1, 3, none⟩ = false := ((unhide Kmwr) 3 (by simp)).2
      have m4 : wr.cell? ⟨w.heap.size + 1, 4, none⟩ = some (.int .i64 m.tare) := ((unhide Kmwr) 4 (by simp)).1
      have mf4 : wr.frozen? ⟨w.heap.size + 1, 4, none⟩ = false := ((unhide Kmwr) 4 (by simp)).2
      have m5 : wr.cell? ⟨w.heap.size + 1, 5, none⟩ = some (.int .i64 m.gram) := ((unhide Kmwr) 5 (by simp)).1
      have mf5 : wr.frozen? ⟨w.heap.size + 1, 5, none⟩ = false := ((unhide Kmwr) 5 (by simp)).2
      have m6 : wr.cell? ⟨w.heap.size + 1, 6, none⟩ = some (.int .i64 m.cost) := ((unhide Kmwr) 6 (by simp)).1
      have mf6 : wr.frozen? ⟨w.heap.size + 1, 6, none⟩ = false := ((unhide Kmwr) 6 (by simp)).2
      go_wp2
      go_roundw
      case rel => exact ⟨1, q, by omega, by go_num, unhide HE, (Blk.others7 (unhide Kzwr) Nqzm).allocOld (by simpa using Zzwr) _, (Blk.fill7 (unhide Kmwr)).allocOld (by simpa using Zmwr) _, by simp; omega, bw_alloc (below_fill7 (unhide Bwr) (by omega)) _⟩
      case measure => simp [intOf]; omega
    have hik : ¬ (k : Int) = 0 := by omega
    have h0k : 0 < k := by omega
    have m0 : wr.cell? ⟨w.heap.size + 1, 0, none⟩ = some (.int .i64 m.id) := ((unhide Kmwr) 0 (by simp)).1
    have m1 : wr.cell? ⟨w.heap.size + 1, 1, none⟩ = some (.int .i64 m.wd) := ((unhide Kmwr) 1 (by simp)).1
    have m2 : wr.cell? ⟨w.heap.size + 1, 2, none⟩ = some (.int .i64 m.ht) := ((unhide Kmwr) 2 (by simp)).1
    have m3 : wr.cell? ⟨w.heap.size + 1, 3, none⟩ = some (.int .i64 m.dp) := ((unhide Kmwr) 3 (by simp)).1
    have m4 : wr.cell? ⟨w.heap.size + 1, 4, none⟩ = some (.int .i64 m.tare) := ((unhide Kmwr) 4 (by simp)).1
    have m5 : wr.cell? ⟨w.heap.size + 1, 5, none⟩ = some (.int .i64 m.gram) := ((unhide Kmwr) 5 (by simp)).1
    have m6 : wr.cell? ⟨w.heap.size + 1, 6, none⟩ = some (.int .i64 m.cost) := ((unhide Kmwr) 6 (by simp)).1
    go_wp2_with fail
    clear m0 d0 m1 d1 m2 d2 m3 d3 m4 d4 m5 d5 m6 d6
    have Bv1 : Hid (Below w.heap.size w (wr.alloc (.cells #[.int .i64 q.id, .int .i64 q.wd, .int .i64 q.ht, .int .i64 q.dp, .int .i64 q.tare, .int .i64 q.gram, .int .i64 q.cost] 55))) := (unhide Bwr).alloc (unhide Bwr).size _
    have Kxv1 : Hid (Blk (wr.alloc (.cells #[.int .i64 q.id, .int .i64 q.wd, .int .i64 q.ht, .int .i64 q.dp, .int .i64 q.tare, .int .i64 q.gram, .int .i64 q.cost] 55)) wr.heap.size [.int .i64 q.id, .int .i64 q.wd, .int .i64 q.ht, .int .i64 q.dp, .int .i64 q.tare, .int .i64 q.gram, .int .i64 q.cost]) := Blk.allocAt [.int .i64 q.id, .int .i64 q.wd, .int .i64 q.ht, .int .i64 q.dp, .int .i64 q.tare, .int .i64 q.gram, .int .i64 q.cost] rfl
    have Zxv1 : wr.heap.size < (wr.alloc (.cells #[.int .i64 q.id, .int .i64 q.wd, .int .i64 q.ht, .int .i64 q.dp, .int .i64 q.tare, .int .i64 q.gram, .int .i64 q.cost] 55)).heap.size := by simp
    have Gx : w.heap.size ≤ wr.heap.size := (unhide Bwr).size
    have Kzv1 : Hid (Blk (wr.alloc (.cells #[.int .i64 q.id, .int .i64 q.wd, .int .i64 q.ht, .int .i64 q.dp, .int .i64 q.tare, .int .i64 q.gram, .int .i64 q.cost] 55)) w.heap.size [.int .i64 0, .int .i64 0, .int .i64 0, .int .i64 0, .int .i64 0, .int .i64 0, .int .i64 0]) := (unhide Kzwr).allocOld Zzwr _
    have Zzv1 : w.heap.size < (wr.alloc (.cells #[.int .i64 q.id, .int .i64 q.wd, .int .i64 q.ht, .int .i64 q.dp, .int .i64 q.tare, .int .i64 q.gram, .int .i64 q.cost] 55)).heap.size := by simp <;> omega
    have Nqzx : w.heap.size ≠ wr.heap.size := Nat.ne_of_lt Zzwr
    have Nqxz : wr.heap.size ≠ w.heap.size := Ne.symm Nqzx
    have Kmv1 : Hid (Blk (wr.alloc (.cells #[.int .i64 q.id, .int .i64 q.wd, .int .i64 q.ht, .int .i64 q.dp, .int .i64 q.tare, .int .i64 q.gram, .int .i64 q.cost] 55)) (w.heap.size + 1) [.int .i64 m.id, .int .i64 m.wd, .int .i64 m.ht, .int .i64 m.dp, .int .i64 m.tare, .int .i64 m.gram, .int .i64 m.cost]) := (unhide Kmwr).allocOld Zmwr _
    have Zmv1 : (w.heap.size + 1) < (wr.alloc (.cells #[.int .i64 q.id, .int .i64 q.wd, .int .i64 q.ht, .int .i64 q.dp, .int .i64 q.tare, .int .i64 q.gram, .int .i64 q.cost] 55)).heap.size := by simp <;> omega
    have Nqmx : (w.heap.size + 1) ≠ wr.heap.size := Nat.ne_of_lt Zmwr
    have Nqxm : wr.heap.size ≠ (w.heap.size + 1) := Ne.symm Nqmx
    clear Bwr Kzwr Zzwr Kmwr Zmwr
    generalize (wr.alloc (.cells #[.int .i64 q.id, .int .i64 q.wd, .int .i64 q.ht, .int .i64 q.dp, .int .i64 q.tare, .int .i64 q.gram, .int .i64 q.cost] 55)) = v1 at *
    refine (byCost_any q m _).mono ?_
    rintro e v2 ⟨rfl, hb⟩
    have Bv2 := hide ((unhide Bv1).trans (hb.mono (unhide Bv1).size))
    have Kzv2 := hide (Blk.below hb Zzv1 (unhide Kzv1))
    have Zzv2 := Nat.lt_of_lt_of_le Zzv1 hb.size
    have Kmv2 := hide (Blk.below hb Zmv1 (unhide Kmv1))
    have Zmv2 := Nat.lt_of_lt_of_le Zmv1 hb.size
    have Kxv2 := hide (Blk.below hb Zxv1 (unhide Kxv1))
    have Zxv2 := Nat.lt_of_lt_of_le Zxv1 hb.size
    clear hb
    clear Bv1 Kzv1 Zzv1 Kmv1 Zmv1 Kxv1 Zxv1
    have cx0 : v2.cell? ⟨wr.heap.size, 0, none⟩ = some (.int .i64 q.id) := ((unhide Kxv2) 0 (by simp)).1
    have cx1 : v2.cell? ⟨wr.heap.size, 1, none⟩ = some (.int .i64 q.wd) := ((unhide Kxv2) 1 (by simp)).1
    have cx2 : v2.cell? ⟨wr.heap.size, 2, none⟩ = some (.int .i64 q.ht) := ((unhide Kxv2) 2 (by simp)).1
    have cx3 : v2.cell? ⟨wr.heap.size, 3, none⟩ = some (.int .i64 q.dp) := ((unhide Kxv2) 3 (by simp)).1
    have cx4 : v2.cell? ⟨wr.heap.size, 4, none⟩ = some (.int .i64 q.tare) := ((unhide Kxv2) 4 (by simp)).1
    have cx5 : v2.cell? ⟨wr.heap.size, 5, none⟩ = some (.int .i64 q.gram) := ((unhide Kxv2) 5 (by simp)).1
    have cx6 : v2.cell? ⟨wr.heap.size, 6, none⟩ = some (.int .i64 q.cost) := ((unhide Kxv2) 6 (by simp)).1
    have cm0 : v2.cell? ⟨(w.heap.size + 1), 0, none⟩ = some (.int .i64 m.id) := ((unhide Kmv2) 0 (by simp)).1
    have fm0 : v2.frozen? ⟨(w.heap.size + 1), 0, none⟩ = false := ((unhide Kmv2) 0 (by simp)).2
    have cm1 : v2.cell? ⟨(w.heap.size + 1), 1, none⟩ = some (.int .i64 m.wd) := ((unhide Kmv2) 1 (by simp)).1
    have fm1 : v2.frozen? ⟨(w.heap.size + 1), 1, none⟩ = false := ((unhide Kmv2) 1 (by simp)).2
    have cm2 : v2.cell? ⟨(w.heap.size + 1), 2, none⟩ = some (.int .i64 m.ht) := ((unhide Kmv2) 2 (by simp)).1
    have fm2 : v2.frozen? ⟨(w.heap.size + 1), 2, none⟩ = false := ((unhide Kmv2) 2 (by simp)).2
    have cm3 : v2.cell? ⟨(w.heap.size + 1), 3, none⟩ = some (.int .i64 m.dp) := ((unhide Kmv2) 3 (by simp)).1
    have fm3 : v2.frozen? ⟨(w.heap.size + 1), 3, none⟩ = false := ((unhide Kmv2) 3 (by simp)).2
    have cm4 : v2.cell? ⟨(w.heap.size + 1), 4, none⟩ = some (.int .i64 m.tare) := ((unhide Kmv2) 4 (by simp)).1
    have fm4 : v2.frozen? ⟨(w.heap.size + 1), 4, none⟩ = false := ((unhide Kmv2) 4 (by simp)).2
    have cm5 : v2.cell? ⟨(w.heap.size + 1), 5, none⟩ = some (.int .i64 m.gram) := ((unhide Kmv2) 5 (by simp)).1
    have fm5 : v2.frozen? ⟨(w.heap.size + 1), 5, none⟩ = false := ((unhide Kmv2) 5 (by simp)).2
    have cm6 : v2.cell? ⟨(w.heap.size + 1), 6, none⟩ = some (.int .i64 m.cost) := ((unhide Kmv2) 6 (by simp)).1
    have fm6 : v2.frozen? ⟨(w.heap.size + 1), 6, none⟩ = false := ((unhide Kmv2) 6 (by simp)).2
    cases hl : lessT q m
    · have HE : Hid ((leastT (xs.take (k + 1))).getD TypeV.zero = m) := (unhide HLN) h0k hl
      have hcc := costC_no hl
      have hcd : decide (costC q m < 0) = false := decide_eq_false hcc
      go_wp2
      go_roundw
      case rel => exact ⟨k + 1, m, by omega, by go_num, unhide HE, unhide Kzv2, unhide Kmv2, Zmv2, unhide Bv2⟩
      case measure => simp [intOf]; omega
    · have HE : Hid ((leastT (xs.take (k + 1))).getD TypeV.zero = q) := (unhide HLY) h0k hl
      have hcc := costC_yes hl
      go_wp2
      go_roundw
      case rel => exact ⟨k + 1, q, by omega, by go_num, unhide HE, Blk.others7 (unhide Kzv2) Nqzm, Blk.fill7 (unhide Kmv2), by simpa using Zmv2, below_fill7 (unhide Bv2) (by omega)⟩
      case measure => simp [intOf]; omega
end Go.Proofs.YtphdeojiehigpaaGreatDoor
