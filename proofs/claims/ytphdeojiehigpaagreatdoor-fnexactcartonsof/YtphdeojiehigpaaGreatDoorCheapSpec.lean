/- The cheapest type that holds: the model. -/
import Derived.Test.YtphdeojiehigpaaGreatDoorCheapPlain
import Derived.Test.YtphdeojiehigpaaGreatDoorHoldsSpec
import Derived.Test.YtphdeojiehigpaaGreatDoorLowPlain
import Derived.Test.YtphdeojiehigpaaGreatDoorAppendSome
import Derived.Test.YtphdeojiehigpaaGreatDoorInvR
import Derived.Deep.DeepMust
import Derived.Deep.DeepCutAuto
import Derived.Deep.RegionHeld3
namespace Go.Proofs.YtphdeojiehigpaaGreatDoor
open Go Go.RowKit
set_option linter.unusedVariables false
set_option linter.unusedSimpArgs false

set_option maxRecDepth 100000 in
set_option maxHeartbeats 4000000 in
theorem specCheapest_any (r : ReqV) (h : ReqH) (a : Option Addr) (n c : Nat) (us : List Int) (w : World) (hr : RdReq w r h) (hs : r.small) (hu : Rd w a n us) (hn : n ≤ 1048600) :
    Calls Tryz.prog 21 #[reqVal r h, .slice a n c] w fun e w' => e = .returned (.tuple #[.agg #[.int .i64 (cheapV r us).id, .int .i64 (cheapV r us).wd, .int .i64 (cheapV r us).ht, .int .i64 (cheapV r us).dp, .int .i64 (cheapV r us).tare, .int .i64 (cheapV r us).gram, .int .i64 (cheapV r us).cost], .bool (cheapB r us)]) ∧ Below w.heap.size w w' := by
  have htl : r.types.length ≤ 1048576 := by unfold ReqV.small at hs; omega
  have HU := hide hu
  have HR := hide hr
  clear hr hu
  obtain ⟨ap, ta, ai, cp, ct, ci⟩ := h
  unfold reqVal
  go_enter Tryz.func21, Tryz.ntmps21
  go_wp2_with fail
  have Bwb : Hid (Below w.heap.size w (((w.alloc (.cells #[.int .i64 r.way, .int .i64 r.pal.wd, .int .i64 r.pal.dp, .int .i64 r.pal.ht, .int .i64 r.pal.gram, .int .i64 r.classes, .slice ap r.pairs.length cp, .slice ta r.types.length ct, .int .i64 r.master, .slice ai r.items.length ci] 40)).alloc (.cells #[.int .i64 0, .int .i64 0, .int .i64 0, .int .i64 0, .int .i64 0, .int .i64 0, .int .i64 0] 55)).alloc (.cells #[.int .i64 0, .int .i64 0, .int .i64 0, .int .i64 0, .int .i64 0, .int .i64 0, .int .i64 0] 55))) := ((((Below.refl _ _).alloc (by simp) _).alloc (by simp) _).alloc (by simp <;> omega) _)
  have Kawb : Hid (Blk (((w.alloc (.cells #[.int .i64 r.way, .int .i64 r.pal.wd, .int .i64 r.pal.dp, .int .i64 r.pal.ht, .int .i64 r.pal.gram, .int .i64 r.classes, .slice ap r.pairs.length cp, .slice ta r.types.length ct, .int .i64 r.master, .slice ai r.items.length ci] 40)).alloc (.cells #[.int .i64 0, .int .i64 0, .int .i64 0, .int .i64 0, .int .i64 0, .int .i64 0, .int .i64 0] 55)).alloc (.cells #[.int .i64 0, .int .i64 0, .int .i64 0, .int .i64 0, .int .i64 0, .int .i64 0, .int .i64 0] 55)) w.heap.size [.int .i64 r.way, .int .i64 r.pal.wd, .int .i64 r.pal.dp, .int .i64 r.pal.ht, .int .i64 r.pal.gram, .int .i64 r.classes, .slice ap r.pairs.length cp, .slice ta r.types.length ct, .int .i64 r.master, .slice ai r.items.length ci]) := (((Blk.allocAt (w := w) [.int .i64 r.way, .int .i64 r.pal.wd, .int .i64 r.pal.dp, .int .i64 r.pal.ht, .int .i64 r.pal.gram, .int .i64 r.classes, .slice ap r.pairs.length cp, .slice ta r.types.length ct, .int .i64 r.master, .slice ai r.items.length ci] (by simp)).allocOld (by simp) _).allocOld (by simp <;> omega) _)
  have Zawb : w.heap.size < (((w.alloc (.cells #[.int .i64 r.way, .int .i64 r.pal.wd, .int .i64 r.pal.dp, .int .i64 r.pal.ht, .int .i64 r.pal.gram, .int .i64 r.classes, .slice ap r.pairs.length cp, .slice ta r.types.length ct, .int .i64 r.master, .slice ai r.items.length ci] 40)).alloc (.cells #[.int .i64 0, .int .i64 0, .int .i64 0, .int .i64 0, .int .i64 0, .int .i64 0, .int .i64 0] 55)).alloc (.cells #[.int .i64 0, .int .i64 0, .int .i64 0, .int .i64 0, .int .i64 0, .int .i64 0, .int .i64 0] 55)).heap.size := by simp <;> omega
  have Ga : w.heap.size ≤ w.heap.size := by omega
  have Kzwb : Hid (Blk (((w.alloc (.cells #[.int .i64 r.way, .int .i64 r.pal.wd, .int .i64 r.pal.dp, .int .i64 r.pal.ht, .int .i64 r.pal.gram, .int .i64 r.classes, .slice ap r.pairs.length cp, .slice ta r.types.length ct, .int .i64 r.master, .slice ai r.items.length ci] 40)).alloc (.cells #[.int .i64 0, .int .i64 0, .int .i64 0, .int .i64 0, .int .i64 0, .int .i64 0, .int .i64 0] 55)).alloc (.cells #[.int .i64 0, .int .i64 0, .int .i64 0, .int .i64 0, .int .i64 0, .int .i64 0, .int .i64 0] 55)) (w.heap.size + 1) [.int .i64 0, .int .i64 0, .int .i64 0, .int .i64 0, .int .i64 0, .int .i64 0, .int .i64 0]) := ((Blk.allocAt (w := (w.alloc (.cells #[.int .i64 r.way, .int .i64 r.pal.wd, .int .i64 r.pal.dp, .int .i64 r.pal.ht, .int .i64 r.pal.gram, .int .i64 r.classes, .slice ap r.pairs.length cp, .slice ta r.types.length ct, .int .i64 r.master, .slice ai r.items.length ci] 40))) [.int .i64 0, .int .i64 0, .int .i64 0, .int .i64 0, .int .i64 0, .int .i64 0, .int .i64 0] (by simp)).allocOld (by simp) _)
  have Zzwb : (w.heap.size + 1) < (((w.alloc (.cells #[.int .i64 r.way, .int .i64 r.pal.wd, .int .i64 r.pal.dp, .int .i64 r.pal.ht, .int .i64 r.pal.gram, .int .i64 r.classes, .slice ap r.pairs.length cp, .slice ta r.types.length ct, .int .i64 r.master, .slice ai r.items.length ci] 40)).alloc (.cells #[.int .i64 0, .int .i64 0, .int .i64 0, .int .i64 0, .int .i64 0, .int .i64 0, .int .i64 0] 55)).alloc (.cells #[.int .i64 0, .int .i64 0, .int .i64 0, .int .i64 0, .int .i64 0, .int .i64 0, .int .i64 0] 55)).heap.size := by simp <;> omega
  have Gz : w.heap.size ≤ (w.heap.size + 1) := by omega
  have Nqaz : w.heap.size ≠ (w.heap.size + 1) := by omega
  have Nqza : (w.heap.size + 1) ≠ w.heap.size := by omega
  have Kmwb : Hid (Blk (((w.alloc (.cells #[.int .i64 r.way, .int .i64 r.pal.wd, .int .i64 r.pal.dp, .int .i64 r.pal.ht, .int .i64 r.pal.gram, .int .i64 r.classes, .slice ap r.pairs.length cp, .slice ta r.types.length ct, .int .i64 r.master, .slice ai r.items.length ci] 40)).alloc (.cells #[.int .i64 0, .int .i64 0, .int .i64 0, .int .i64 0, .int .i64 0, .int .i64 0, .int .i64 0] 55)).alloc (.cells #[.int .i64 0, .int .i64 0, .int .i64 0, .int .i64 0, .int .i64 0, .int .i64 0, .int .i64 0] 55)) (w.heap.size + 1 + 1) [.int .i64 0, .int .i64 0, .int .i64 0, .int .i64 0, .int .i64 0, .int .i64 0, .int .i64 0]) := (Blk.allocAt (w := ((w.alloc (.cells #[.int .i64 r.way, .int .i64 r.pal.wd, .int .i64 r.pal.dp, .int .i64 r.pal.ht, .int .i64 r.pal.gram, .int .i64 r.classes, .slice ap r.pairs.length cp, .slice ta r.types.length ct, .int .i64 r.master, .slice ai r.items.length ci] 40)).alloc (.cells #[.int .i64 0, .int .i64 0, .int .i64 0, .int .i64 0, .int .i64 0, .int .i64 0, .int .i64 0] 55))) [.int .i64 0, .int .i64 0, .int .i64 0, .int .i64 0, .int .i64 0, .int .i64 0, .int .i64 0] (by simp))
  have Zmwb : (w.heap.size + 1 + 1) < (((w.alloc (.cells #[.int .i64 r.way, .int .i64 r.pal.wd, .int .i64 r.pal.dp, .int .i64 r.pal.ht, .int .i64 r.pal.gram, .int .i64 r.classes, .slice ap r.pairs.length cp, .slice ta r.types.length ct, .int .i64 r.master, .slice ai r.items.length ci] 40)).alloc (.cells #[.int .i64 0, .int .i64 0, .int .i64 0, .int .i64 0, .int .i64 0, .int .i64 0, .int .i64 0] 55)).alloc (.cells #[.int .i64 0, .int .i64 0, .int .i64 0, .int .i64 0, .int .i64 0, .int .i64 0, .int .i64 0] 55)).heap.size := by simp
  have Gm : w.heap.size ≤ (w.heap.size + 1 + 1) := by omega
  have Nqam : w.heap.size ≠ (w.heap.size + 1 + 1) := by omega
  have Nqma : (w.heap.size + 1 + 1) ≠ w.heap.size := by omega
  have Nqzm : (w.heap.size + 1) ≠ (w.heap.size + 1 + 1) := by omega
  have Nqmz : (w.heap.size + 1 + 1) ≠ (w.heap.size + 1) := by omega
  generalize (((w.alloc (.cells #[.int .i64 r.way, .int .i64 r.pal.wd, .int .i64 r.pal.dp, .int .i64 r.pal.ht, .int .i64 r.pal.gram, .int .i64 r.classes, .slice ap r.pairs.length cp, .slice ta r.types.length ct, .int .i64 r.master, .slice ai r.items.length ci] 40)).alloc (.cells #[.int .i64 0, .int .i64 0, .int .i64 0, .int .i64 0, .int .i64 0, .int .i64 0, .int .i64 0] 55)).alloc (.cells #[.int .i64 0, .int .i64 0, .int .i64 0, .int .i64 0, .int .i64 0, .int .i64 0, .int .i64 0] 55)) = wb at *
  go_loopw [7, 8] (fun f i wr => ∃ (k : Nat) (m : TypeV) (bo : Bool), k ≤ r.types.length ∧ i = .int .i64 k ∧ f = .bool bo ∧ (leastT (holding r us (r.types.take k))).isSome = bo ∧ (leastT (holding r us (r.types.take k))).getD TypeV.zero = m ∧ Blk wr w.heap.size [.int .i64 r.way, .int .i64 r.pal.wd, .int .i64 r.pal.dp, .int .i64 r.pal.ht, .int .i64 r.pal.gram, .int .i64 r.classes, .slice ap r.pairs.length cp, .slice ta r.types.length ct, .int .i64 r.master, .slice ai r.items.length ci] ∧ Blk wr (w.heap.size + 1) [.int .i64 0, .int .i64 0, .int .i64 0, .int .i64 0, .int .i64 0, .int .i64 0, .int .i64 0] ∧ Blk wr (w.heap.size + 1 + 1) [.int .i64 m.id, .int .i64 m.wd, .int .i64 m.ht, .int .i64 m.dp, .int .i64 m.tare, .int .i64 m.gram, .int .i64 m.cost] ∧ w.heap.size + 1 + 1 < wr.heap.size ∧ Below w.heap.size w wr) (fun _ i _ => r.types.length - (intOf i).toNat)
  case atStart => exact ⟨0, TypeV.zero, false, Nat.zero_le _, rfl, rfl, rfl, rfl, unhide Kawb, unhide Kzwb, unhide Kmwb, Zmwb, unhide Bwb⟩
  case round =>
    clear Kawb Kzwb Kmwb Zmwb Zzwb Zawb Bwb Nqaz Nqza Nqam Nqma Nqzm Nqmz
    obtain ⟨k, m, bo, hk, rfl, rfl, hbo, hm, ka, kz, km, Zmwr, hb⟩ := hrel
    have Kawr := hide ka
    have Kzwr := hide kz
    have Kmwr := hide km
    have Zzwr : w.heap.size + 1 < wr.heap.size := by omega
    have Zawr : w.heap.size < wr.heap.size := by omega
    have Bwr := hide hb
    have HM := hide hm
    have HBO := hide hbo
    have Nqzm : w.heap.size + 1 ≠ w.heap.size + 1 + 1 := by omega
    have Nqam : w.heap.size ≠ w.heap.size + 1 + 1 := by omega
    clear kz km ka hm hbo hb
    by_cases hlk : k < r.types.length
    case neg =>
      have HE1 : Hid (cheapV r us = m) := by rw [Hid, ← unhide HM, List.take_of_length_le (by omega), cheapV]
      have HE2 : Hid (cheapB r us = bo) := by rw [Hid, ← unhide HBO, List.take_of_length_le (by omega), cheapB]
      have m0 : wr.cell? ⟨w.heap.size + 1 + 1, 0, none⟩ = some (.int .i64 m.id) := ((unhide Kmwr) 0 (by simp)).1
      have m1 : wr.cell? ⟨w.heap.size + 1 + 1, 1, none⟩ = some (.int .i64 m.wd) := ((unhide Kmwr) 1 (by simp)).1
      have m2 : wr.cell? ⟨w.heap.size + 1 + 1, 2, none⟩ = some (.int .i64 m.ht) := ((unhide Kmwr) 2 (by simp)).1
      have m3 : wr.cell? ⟨w.heap.size + 1 + 1, 3, none⟩ = some (.int .i64 m.dp) := ((unhide Kmwr) 3 (by simp)).1
      have m4 : wr.cell? ⟨w.heap.size + 1 + 1, 4, none⟩ = some (.int .i64 m.tare) := ((unhide Kmwr) 4 (by simp)).1
      have m5 : wr.cell? ⟨w.heap.size + 1 + 1, 5, none⟩ = some (.int .i64 m.gram) := ((unhide Kmwr) 5 (by simp)).1
      have m6 : wr.cell? ⟨w.heap.size + 1 + 1, 6, none⟩ = some (.int .i64 m.cost) := ((unhide Kmwr) 6 (by simp)).1
      have z0 : wr.cell? ⟨w.heap.size + 1, 0, none⟩ = some (.int .i64 0) := ((unhide Kzwr) 0 (by simp)).1
      have zf0 : wr.frozen? ⟨w.heap.size + 1, 0, none⟩ = false := ((unhide Kzwr) 0 (by simp)).2
      have z1 : wr.cell? ⟨w.heap.size + 1, 1, none⟩ = some (.int .i64 0) := ((unhide Kzwr) 1 (by simp)).1
      have zf1 : wr.frozen? ⟨w.heap.size + 1, 1, none⟩ = false := ((unhide Kzwr) 1 (by simp)).2
      have z2 : wr.cell? ⟨w.heap.size + 1, 2, none⟩ = some (.int .i64 0) := ((unhide Kzwr) 2 (by simp)).1
      have zf2 : wr.frozen? ⟨w.heap.size + 1, 2, none⟩ = false := ((unhide Kzwr) 2 (by simp)).2
      have z3 : wr.cell? ⟨w.heap.size + 1, 3, none⟩ = some (.int .i64 0) := ((unhide Kzwr) 3 (by simp)).1
      have zf3 : wr.frozen? ⟨w.heap.size + 1, 3, none⟩ = false := ((unhide Kzwr) 3 (by simp)).2
      have z4 : wr.cell? ⟨w.heap.size + 1, 4, none⟩ = some (.int .i64 0) := ((unhide Kzwr) 4 (by simp)).1
      have zf4 : wr.frozen? ⟨w.heap.size + 1, 4, none⟩ = false := ((unhide Kzwr) 4 (by simp)).2
      have z5 : wr.cell? ⟨w.heap.size + 1, 5, none⟩ = some (.int .i64 0) := ((unhide Kzwr) 5 (by simp)).1
      have zf5 : wr.frozen? ⟨w.heap.size + 1, 5, none⟩ = false := ((unhide Kzwr) 5 (by simp)).2
      have z6 : wr.cell? ⟨w.heap.size + 1, 6, none⟩ = some (.int .i64 0) := ((unhide Kzwr) 6 (by simp)).1
      have zf6 : wr.frozen? ⟨w.heap.size + 1, 6, none⟩ = false := ((unhide Kzwr) 6 (by simp)).2
      obtain ⟨a0, a1, a2, a3, a4, a5, a6, a7, a8, a9⟩ := Blk.cs10 (unhide Kawr)
      have CC : Blk (((((((wr.setCell ⟨w.heap.size + 1, 0, none⟩ (.int .i64 m.id)).setCell ⟨w.heap.size + 1, 1, none⟩ (.int .i64 m.wd)).setCell ⟨w.heap.size + 1, 2, none⟩ (.int .i64 m.ht)).setCell ⟨w.heap.size + 1, 3, none⟩ (.int .i64 m.dp)).setCell ⟨w.heap.size + 1, 4, none⟩ (.int .i64 m.tare)).setCell ⟨w.heap.size + 1, 5, none⟩ (.int .i64 m.gram)).setCell ⟨w.heap.size + 1, 6, none⟩ (.int .i64 m.cost)) (w.heap.size + 1) [.int .i64 m.id, .int .i64 m.wd, .int .i64 m.ht, .int .i64 m.dp, .int .i64 m.tare, .int .i64 m.gram, .int .i64 m.cost] := Blk.fill7 (unhide Kzwr)
      have e0 : (((((((wr.setCell ⟨w.heap.size + 1, 0, none⟩ (.int .i64 m.id)).setCell ⟨w.heap.size + 1, 1, none⟩ (.int .i64 m.wd)).setCell ⟨w.heap.size + 1, 2, none⟩ (.int .i64 m.ht)).setCell ⟨w.heap.size + 1, 3, none⟩ (.int .i64 m.dp)).setCell ⟨w.heap.size + 1, 4, none⟩ (.int .i64 m.tare)).setCell ⟨w.heap.size + 1, 5, none⟩ (.int .i64 m.gram)).setCell ⟨w.heap.size + 1, 6, none⟩ (.int .i64 m.cost)).cell? ⟨w.heap.size + 1, 0, none⟩ = some (.int .i64 m.id) := (CC 0 (by simp)).1
      have e1 : (((((((wr.setCell ⟨w.heap.size + 1, 0, none⟩ (.int .i64 m.id)).setCell ⟨w.heap.size + 1, 1, none⟩ (.int .i64 m.wd)).setCell ⟨w.heap.size + 1, 2, none⟩ (.int .i64 m.ht)).setCell ⟨w.heap.size + 1, 3, none⟩ (.int .i64 m.dp)).setCell ⟨w.heap.size + 1, 4, none⟩ (.int .i64 m.tare)).setCell ⟨w.heap.size + 1, 5, none⟩ (.int .i64 m.gram)).setCell ⟨w.heap.size + 1, 6, none⟩ (.int .i64 m.cost)).cell? ⟨w.heap.size + 1, 1, none⟩ = some (.int .i64 m.wd) := (CC 1 (by simp)).1
      have e2 : (((((((wr.setCell ⟨w.heap.size + 1, 0, none⟩ (.int .i64 m.id)).setCell ⟨w.heap.size + 1, 1, none⟩ (.int .i64 m.wd)).setCell ⟨w.heap.size + 1, 2, none⟩ (.int .i64 m.ht)).setCell ⟨w.heap.size + 1, 3, none⟩ (.int .i64 m.dp)).setCell ⟨w.heap.size + 1, 4, none⟩ (.int .i64 m.tare)).setCell ⟨w.heap.size + 1, 5, none⟩ (.int .i64 m.gram)).setCell ⟨w.heap.size + 1, 6, none⟩ (.int .i64 m.cost)).cell? ⟨w.heap.size + 1, 2, none⟩ = some (.int .i64 m.ht) := (CC 2 (by simp)).1
      have e3 : (((((((wr.setCell ⟨w.heap.size + 1, 0, none⟩ (.int .i64 m.id)).setCell ⟨w.heap.size + 1, 1, none⟩ (.int .i64 m.wd)).setCell ⟨w.heap.size + 1, 2, none⟩ (.int .i64 m.ht)).setCell ⟨w.heap.size + 1, 3, none⟩ (.int .i64 m.dp)).setCell ⟨w.heap.size + 1, 4, none⟩ (.int .i64 m.tare)).setCell ⟨w.heap.size + 1, 5, none⟩ (.int .i64 m.gram)).setCell ⟨w.heap.size + 1, 6, none⟩ (.int .i64 m.cost)).cell? ⟨w.heap.size + 1, 3, none⟩ = some (.int .i64 m.dp) := (CC 3 (by simp)).1
      have e4 : (((((((wr.setCell ⟨w.heap.size + 1, 0, none⟩ (.int .i64 m.id)).setCell ⟨w.heap.size + 1, 1, none⟩ (.int .i64 m.wd)).setCell ⟨w.heap.size + 1, 2, none⟩ (.int .i64 m.ht)).setCell ⟨w.heap.size + 1, 3, none⟩ (.int .i64 m.dp)).setCell ⟨w.heap.size + 1, 4, none⟩ (.int .i64 m.tare)).setCell ⟨w.heap.size + 1, 5, none⟩ (.int .i64 m.gram)).setCell ⟨w.heap.size + 1, 6, none⟩ (.int .i64 m.cost)).cell? ⟨w.heap.size + 1, 4, none⟩ = some (.int .i64 m.tare) := (CC 4 (by simp)).1
      have e5 : (((((((wr.setCell ⟨w.heap.size + 1, 0, none⟩ (.int .i64 m.id)).setCell ⟨w.heap.size + 1, 1, none⟩ (.int .i64 m.wd)).setCell ⟨w.heap.size + 1, 2, none⟩ (.int .i64 m.ht)).setCell ⟨w.heap.size + 1, 3, none⟩ (.int .i64 m.dp)).setCell ⟨w.heap.size + 1, 4, none⟩ (.int .i64 m.tare)).setCell ⟨w.heap.size + 1, 5, none⟩ (.int .i64 m.gram)).setCell ⟨w.heap.size + 1, 6, none⟩ (.int .i64 m.cost)).cell? ⟨w.heap.size + 1, 5, none⟩ = some (.int .i64 m.gram) := (CC 5 (by simp)).1
      have e6 : (((((((wr.setCell ⟨w.heap.size + 1, 0, none⟩ (.int .i64 m.id)).setCell ⟨w.heap.size + 1, 1, none⟩ (.int .i64 m.wd)).setCell ⟨w.heap.size + 1, 2, none⟩ (.int .i64 m.ht)).setCell ⟨w.heap.size + 1, 3, none⟩ (.int .i64 m.dp)).setCell ⟨w.heap.size + 1, 4, none⟩ (.int .i64 m.tare)).setCell ⟨w.heap.size + 1, 5, none⟩ (.int .i64 m.gram)).setCell ⟨w.heap.size + 1, 6, none⟩ (.int .i64 m.cost)).cell? ⟨w.heap.size + 1, 6, none⟩ = some (.int .i64 m.cost) := (CC 6 (by simp)).1
      clear CC
      go_wp2
      refine bodyPost_ret (v := .tuple #[.agg #[.int .i64 m.id, .int .i64 m.wd, .int .i64 m.ht, .int .i64 m.dp, .int .i64 m.tare, .int .i64 m.gram, .int .i64 m.cost], .bool bo]) (by simp [results, Tryz.results21, go_sem, e0, e1, e2, e3, e4, e5, e6]) rfl ⟨ret_type (unhide HE1).symm (unhide HE2).symm, ?_⟩
      exact below_fill7 (unhide Bwr) (by omega)
    obtain ⟨b, off, hta, hc⟩ := ((unhide HR).mono (unhide Bwr)).2.1.2 k hlk
    simp only at hta
    have HHIT := hide (holding_hit (r := r) (us := us) hlk)
    have HMISS := hide (holding_miss (r := r) (us := us) hlk)
    generalize r.types.getD k default = q at hc HHIT HMISS
    subst hta
    have d0 : wr.cell? ⟨b, off + k * 7, none⟩ = some (.int .i64 q.id) := hc 0 (by omega)
    have d1 : wr.cell? ⟨b, off + k * 7 + 1, none⟩ = some (.int .i64 q.wd) := hc 1 (by omega)
    have d2 : wr.cell? ⟨b, off + k * 7 + 2, none⟩ = some (.int .i64 q.ht) := hc 2 (by omega)
    have d3 : wr.cell? ⟨b, off + k * 7 + 3, none⟩ = some (.int .i64 q.dp) := hc 3 (by omega)
    have d4 : wr.cell? ⟨b, off + k * 7 + 4, none⟩ = some (.int .i64 q.tare) := hc 4 (by omega)
    have d5 : wr.cell? ⟨b, off + k * 7 + 5, none⟩ = some (.int .i64 q.gram) := hc 5 (by omega)
    have d6 : wr.cell? ⟨b, off + k * 7 + 6, none⟩ = some (.int .i64 q.cost) := hc 6 (by omega)
    clear hc
    obtain ⟨ca0, ca1, ca2, ca3, ca4, ca5, ca6, ca7, ca8, ca9⟩ := Blk.cs10 (unhide Kawr)
    go_wp2_with fail
    clear ca0 ca1 ca2 ca3 ca4 ca5 ca6 ca7 ca8 ca9 d0 d1 d2 d3 d4 d5 d6
    have Bv1 : Hid (Below w.heap.size w (wr.alloc (.cells #[.int .i64 q.id, .int .i64 q.wd, .int .i64 q.ht, .int .i64 q.dp, .int .i64 q.tare, .int .i64 q.gram, .int .i64 q.cost] 55))) := (unhide Bwr).alloc (unhide Bwr).size _
    have Kxv1 : Hid (Blk (wr.alloc (.cells #[.int .i64 q.id, .int .i64 q.wd, .int .i64 q.ht, .int .i64 q.dp, .int .i64 q.tare, .int .i64 q.gram, .int .i64 q.cost] 55)) wr.heap.size [.int .i64 q.id, .int .i64 q.wd, .int .i64 q.ht, .int .i64 q.dp, .int .i64 q.tare, .int .i64 q.gram, .int .i64 q.cost]) := Blk.allocAt [.int .i64 q.id, .int .i64 q.wd, .int .i64 q.ht, .int .i64 q.dp, .int .i64 q.tare, .int .i64 q.gram, .int .i64 q.cost] rfl
    have Zxv1 : wr.heap.size < (wr.alloc (.cells #[.int .i64 q.id, .int .i64 q.wd, .int .i64 q.ht, .int .i64 q.dp, .int .i64 q.tare, .int .i64 q.gram, .int .i64 q.cost] 55)).heap.size := by simp
    have Gx : w.heap.size ≤ wr.heap.size := (unhide Bwr).size
    have Kav1 : Hid (Blk (wr.alloc (.cells #[.int .i64 q.id, .int .i64 q.wd, .int .i64 q.ht, .int .i64 q.dp, .int .i64 q.tare, .int .i64 q.gram, .int .i64 q.cost] 55)) w.heap.size [.int .i64 r.way, .int .i64 r.pal.wd, .int .i64 r.pal.dp, .int .i64 r.pal.ht, .int .i64 r.pal.gram, .int .i64 r.classes, .slice ap r.pairs.length cp, .slice (some ⟨b, off, none⟩) r.types.length ct, .int .i64 r.master, .slice ai r.items.length ci]) := (unhide Kawr).allocOld Zawr _
    have Zav1 : w.heap.size < (wr.alloc (.cells #[.int .i64 q.id, .int .i64 q.wd, .int .i64 q.ht, .int .i64 q.dp, .int .i64 q.tare, .int .i64 q.gram, .int .i64 q.cost] 55)).heap.size := by simp <;> omega
    have Nqax : w.heap.size ≠ wr.heap.size := Nat.ne_of_lt Zawr
    have Nqxa : wr.heap.size ≠ w.heap.size := Ne.symm Nqax
    have Kzv1 : Hid (Blk (wr.alloc (.cells #[.int .i64 q.id, .int .i64 q.wd, .int .i64 q.ht, .int .i64 q.dp, .int .i64 q.tare, .int .i64 q.gram, .int .i64 q.cost] 55)) (w.heap.size + 1) [.int .i64 0, .int .i64 0, .int .i64 0, .int .i64 0, .int .i64 0, .int .i64 0, .int .i64 0]) := (unhide Kzwr).allocOld Zzwr _
    have Zzv1 : (w.heap.size + 1) < (wr.alloc (.cells #[.int .i64 q.id, .int .i64 q.wd, .int .i64 q.ht, .int .i64 q.dp, .int .i64 q.tare, .int .i64 q.gram, .int .i64 q.cost] 55)).heap.size := by simp <;> omega
    have Nqzx : (w.heap.size + 1) ≠ wr.heap.size := Nat.ne_of_lt Zzwr
    have Nqxz : wr.heap.size ≠ (w.heap.size + 1) := Ne.symm Nqzx
    have Kmv1 : Hid (Blk (wr.alloc (.cells #[.int .i64 q.id, .int .i64 q.wd, .int .i64 q.ht, .int .i64 q.dp, .int .i64 q.tare, .int .i64 q.gram, .int .i64 q.cost] 55)) (w.heap.size + 1 + 1) [.int .i64 m.id, .int .i64 m.wd, .int .i64 m.ht, .int .i64 m.dp, .int .i64 m.tare, .int .i64 m.gram, .int .i64 m.cost]) := (unhide Kmwr).allocOld Zmwr _
    have Zmv1 : (w.heap.size + 1 + 1) < (wr.alloc (.cells #[.int .i64 q.id, .int .i64 q.wd, .int .i64 q.ht, .int .i64 q.dp, .int .i64 q.tare, .int .i64 q.gram, .int .i64 q.cost] 55)).heap.size := by simp <;> omega
    have Nqmx : (w.heap.size + 1 + 1) ≠ wr.heap.size := Nat.ne_of_lt Zmwr
    have Nqxm : wr.heap.size ≠ (w.heap.size + 1 + 1) := Ne.symm Nqmx
    clear Bwr Kawr Zawr Kzwr Zzwr Kmwr Zmwr
    generalize (wr.alloc (.cells #[.int .i64 q.id, .int .i64 q.wd, .int .i64 q.ht, .int .i64 q.dp, .int .i64 q.tare, .int .i64 q.gram, .int .i64 q.cost] 55)) = v1 at *
    refine (specHolds_any r _ _ _ _ us q _ ((unhide HR).mono (unhide Bv1)) hs ((unhide HU).mono (unhide Bv1)) hn).mono ?_
    rintro e v2 ⟨rfl, hb⟩
    have Bv2 := hide ((unhide Bv1).trans (hb.mono (unhide Bv1).size))
    have Kav2 := hide (Blk.below hb Zav1 (unhide Kav1))
    have Zav2 := Nat.lt_of_lt_of_le Zav1 hb.size
    have Kzv2 := hide (Blk.below hb Zzv1 (unhide Kzv1))
    have Zzv2 := Nat.lt_of_lt_of_le Zzv1 hb.size
    have Kmv2 := hide (Blk.below hb Zmv1 (unhide Kmv1))
    have Zmv2 := Nat.lt_of_lt_of_le Zmv1 hb.size
    have Kxv2 := hide (Blk.below hb Zxv1 (unhide Kxv1))
    have Zxv2 := Nat.lt_of_lt_of_le Zxv1 hb.size
    clear hb
    clear Bv1 Kav1 Zav1 Kzv1 Zzv1 Kmv1 Zmv1 Kxv1 Zxv1
    cases hf : holdsR r us q
    case false =>
      have HE : Hid (holding r us (r.types.take (k + 1)) = holding r us (r.types.take k)) := (unhide HMISS) hf
      have HE1 : Hid ((leastT (holding r us (r.types.take (k + 1)))).getD TypeV.zero = m) := by rw [Hid, unhide HE]; exact unhide HM
      have HE2 : Hid ((leastT (holding r us (r.types.take (k + 1)))).isSome = bo) := by rw [Hid, unhide HE]; exact unhide HBO
      go_wp2
      go_roundw
      case rel => exact ⟨k + 1, m, bo, by omega, by go_num, rfl, unhide HE2, unhide HE1, unhide Kav2, unhide Kzv2, unhide Kmv2, Zmv2, unhide Bv2⟩
      case measure => simp [intOf]; omega
    have HE : Hid (leastT (holding r us (r.types.take (k + 1))) = minT (leastT (holding r us (r.types.take k))) q) := by rw [Hid, (unhide HHIT) hf, leastT_snoc]
    have cx0 : v2.cell? ⟨wr.heap.size, 0, none⟩ = some (.int .i64 q.id) := ((unhide Kxv2) 0 (by simp)).1
    have cx1 : v2.cell? ⟨wr.heap.size, 1, none⟩ = some (.int .i64 q.wd) := ((unhide Kxv2) 1 (by simp)).1
    have cx2 : v2.cell? ⟨wr.heap.size, 2, none⟩ = some (.int .i64 q.ht) := ((unhide Kxv2) 2 (by simp)).1
    have cx3 : v2.cell? ⟨wr.heap.size, 3, none⟩ = some (.int .i64 q.dp) := ((unhide Kxv2) 3 (by simp)).1
    have cx4 : v2.cell? ⟨wr.heap.size, 4, none⟩ = some (.int .i64 q.tare) := ((unhide Kxv2) 4 (by simp)).1
    have cx5 : v2.cell? ⟨wr.heap.size, 5, none⟩ = some (.int .i64 q.gram) := ((unhide Kxv2) 5 (by simp)).1
    have cx6 : v2.cell? ⟨wr.heap.size, 6, none⟩ = some (.int .i64 q.cost) := ((unhide Kxv2) 6 (by simp)).1
    have cm0 : v2.cell? ⟨(w.heap.size + 1 + 1), 0, none⟩ = some (.int .i64 m.id) := ((unhide Kmv2) 0 (by simp)).1
    have fm0 : v2.frozen? ⟨(w.heap.size + 1 + 1), 0, none⟩ = false := ((unhide Kmv2) 0 (by simp)).2
    have cm1 : v2.cell? ⟨(w.heap.size + 1 + 1), 1, none⟩ = some (.int .i64 m.wd) := ((unhide Kmv2) 1 (by simp)).1
    have fm1 : v2.frozen? ⟨(w.heap.size + 1 + 1), 1, none⟩ = false := ((unhide Kmv2) 1 (by simp)).2
    have cm2 : v2.cell? ⟨(w.heap.size + 1 + 1), 2, none⟩ = some (.int .i64 m.ht) := ((unhide Kmv2) 2 (by simp)).1
    have fm2 : v2.frozen? ⟨(w.heap.size + 1 + 1), 2, none⟩ = false := ((unhide Kmv2) 2 (by simp)).2
    have cm3 : v2.cell? ⟨(w.heap.size + 1 + 1), 3, none⟩ = some (.int .i64 m.dp) := ((unhide Kmv2) 3 (by simp)).1
    have fm3 : v2.frozen? ⟨(w.heap.size + 1 + 1), 3, none⟩ = false := ((unhide Kmv2) 3 (by simp)).2
    have cm4 : v2.cell? ⟨(w.heap.size + 1 + 1), 4, none⟩ = some (.int .i64 m.tare) := ((unhide Kmv2) 4 (by simp)).1
    have fm4 : v2.frozen? ⟨(w.heap.size + 1 + 1), 4, none⟩ = false := ((unhide Kmv2) 4 (by simp)).2
    have cm5 : v2.cell? ⟨(w.heap.size + 1 + 1), 5, none⟩ = some (.int .i64 m.gram) := ((unhide Kmv2) 5 (by simp)).1
    have fm5 : v2.frozen? ⟨(w.heap.size + 1 + 1), 5, none⟩ = false := ((unhide Kmv2) 5 (by simp)).2
    have cm6 : v2.cell? ⟨(w.heap.size + 1 + 1), 6, none⟩ = some (.int .i64 m.cost) := ((unhide Kmv2) 6 (by simp)).1
    have fm6 : v2.frozen? ⟨(w.heap.size + 1 + 1), 6, none⟩ = false := ((unhide Kmv2) 6 (by simp)).2
    cases bo
    case false =>
      have HE0 : Hid (leastT (holding r us (r.types.take (k + 1))) = some q) := by
        have h1 := unhide HBO
        rw [Option.isSome_eq_false_iff, Option.isNone_iff_eq_none] at h1
        rw [Hid, unhide HE, h1]; rfl
      have HE1 : Hid ((leastT (holding r us (r.types.take (k + 1)))).getD TypeV.zero = q) := by rw [Hid, unhide HE0]; rfl
      have HE2 : Hid ((leastT (holding r us (r.types.take (k + 1)))).isSome = true) := by rw [Hid, unhide HE0]; rfl
      go_wp2
      go_roundw
      case rel => exact ⟨k + 1, q, true, by omega, by go_num, rfl, unhide HE2, unhide HE1, Blk.others7 (unhide Kav2) Nqam, Blk.others7 (unhide Kzv2) Nqzm, Blk.fill7 (unhide Kmv2), by simpa using Zmv2, below_fill7 (unhide Bv2) (by omega)⟩
      case measure => simp [intOf]; omega
    have HEM : Hid (leastT (holding r us (r.types.take k)) = some m) := by
      obtain ⟨y, hy⟩ := Option.isSome_iff_exists.1 (unhide HBO)
      have h2 := unhide HM
      rw [hy] at h2
      rw [Hid, hy]; exact congrArg some h2
    cases hl : lessT q m
    case true =>
      have HE0 : Hid (leastT (holding r us (r.types.take (k + 1))) = some q) := by rw [Hid, unhide HE, unhide HEM]; simp [minT, hl]
      have HE1 : Hid ((leastT (holding r us (r.types.take (k + 1)))).getD TypeV.zero = q) := by rw [Hid, unhide HE0]; rfl
      have HE2 : Hid ((leastT (holding r us (r.types.take (k + 1)))).isSome = true) := by rw [Hid, unhide HE0]; rfl
      simp only [lessT, Bool.or_eq_true, Bool.and_eq_true, decide_eq_true_eq] at hl
      by_cases h1 : q.cost < m.cost
      · clear hl
        go_wp2
        go_roundw
        case rel => exact ⟨k + 1, q, true, by omega, by go_num, rfl, unhide HE2, unhide HE1, Blk.others7 (unhide Kav2) Nqam, Blk.others7 (unhide Kzv2) Nqzm, Blk.fill7 (unhide Kmv2), by simpa using Zmv2, below_fill7 (unhide Bv2) (by omega)⟩
        case measure => simp [intOf]; omega
      · obtain ⟨h2, h3⟩ : q.cost = m.cost ∧ q.id < m.id := by rcases hl with h | h; exact absurd h h1; exact h
        have h4 : (q.cost == m.cost) = true := by simp [h2]
        have h5 : decide (q.cost < m.cost) = false := by simp [h1]
        have h6 : decide (q.id < m.id) = true := by simp [h3]
        clear hl h2 h1
        go_wp2
        go_roundw
        case rel => exact ⟨k + 1, q, true, by omega, by go_num, rfl, unhide HE2, unhide HE1, Blk.others7 (unhide Kav2) Nqam, Blk.others7 (unhide Kzv2) Nqzm, Blk.fill7 (unhide Kmv2), by simpa using Zmv2, below_fill7 (unhide Bv2) (by omega)⟩
        case measure => simp [intOf]; omega
    case false =>
      have HE0 : Hid (leastT (holding r us (r.types.take (k + 1))) = some m) := by rw [Hid, unhide HE, unhide HEM]; simp [minT, hl]
      have HE1 : Hid ((leastT (holding r us (r.types.take (k + 1)))).getD TypeV.zero = m) := by rw [Hid, unhide HE0]; rfl
      have HE2 : Hid ((leastT (holding r us (r.types.take (k + 1)))).isSome = true) := by rw [Hid, unhide HE0]; rfl
      simp only [lessT, Bool.or_eq_false_iff, Bool.and_eq_false_iff, decide_eq_false_iff_not] at hl
      obtain ⟨h1, h2⟩ := hl
      have h5 : decide (q.cost < m.cost) = false := by simp [h1]
      by_cases h3 : q.cost = m.cost
      · have h7 : ¬ q.id < m.id := by rcases h2 with h | h; exact absurd h3 h; exact h
        have h4 : (q.cost == m.cost) = true := by simp [h3]
        have h6 : decide (q.id < m.id) = false := by simp [h7]
        clear h1 h2 h3
        go_wp2
        go_roundw
        case rel => exact ⟨k + 1, m, true, by omega, by go_num, rfl, unhide HE2, unhide HE1, unhide Kav2, unhide Kzv2, unhide Kmv2, Zmv2, unhide Bv2⟩
        case measure => simp [intOf]; omega
      · have h4 : (q.cost == m.cost) = false := by simp [h3]
        clear h1 h2 h3
        go_wp2
        go_roundw
        case rel => exact ⟨k + 1, m, true, by omega, by go_num, rfl, unhide HE2, unhide HE1, unhide Kav2, unhide Kzv2, unhide Kmv2, Zmv2, unhide Bv2⟩
        case measure => simp [intOf]; omega
end Go.Proofs.YtphdeojiehigpaaGreatDoor
