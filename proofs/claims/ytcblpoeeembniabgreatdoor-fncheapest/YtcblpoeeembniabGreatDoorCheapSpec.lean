/- The cheapest type that holds: the model. -/
import Derived.Test.YtcblpoeeembniabGreatDoorPkK
import Derived.Test.YtcblpoeeembniabGreatDoorHoldsSpec
import Derived.Test.YtcblpoeeembniabGreatDoorLowPlain
import Derived.Test.YtcblpoeeembniabGreatDoorAppendSome
import Derived.Test.YtcblpoeeembniabGreatDoorPkC
import Derived.Deep.DeepMust
import Derived.Deep.DeepCutAuto
import Derived.Deep.RegionHeld3
namespace Go.Proofs.YtcblpoeeembniabGreatDoor
open Go Go.RowKit
set_option linter.unusedVariables false
set_option linter.unusedSimpArgs false

set_option maxRecDepth 100000 in
set_option maxHeartbeats 4000000 in
theorem specCheapest_any (r : ReqV) (h : ReqH) (a : Option Addr) (n c : Nat) (us : List Int) (w : World) (hr : RdReq w r h) (hs : r.small) (hu : Rd w a n us) (hn : n ≤ 1048600) :
 Calls Tryz.prog 17 #[reqVal r h, .slice a n c] w fun e w' => e = .returned (.tuple #[.agg #[.int .i64 (cheapV r us).id, .int .i64 (cheapV r us).wd, .int .i64 (cheapV r us).ht, .int .i64 (cheapV r us).dp, .int .i64 (cheapV r us).tare, .int .i64 (cheapV r us).gram, .int .i64 (cheapV r us).cost], .bool (cheapB r us)]) ∧ Below w.heap.size w w' := by
 have htl : r.types.length ≤ 1048576 := by unfold ReqV.small at hs; omega
 have HU := hide hu
 have HR := hide hr
 clear hr hu
 obtain ⟨ap, ta, ai, cp, ct, ci⟩ := h
 unfold reqVal
 go_enter Tryz.func17, Tryz.ntmps17
 go_wp2_with fail
 generalize hW : (((w.alloc (.cells #[.int .i64 r.way, .int .i64 r.pal.wd, .int .i64 r.pal.dp, .int .i64 r.pal.ht, .int .i64 r.pal.gram, .int .i64 r.classes, .slice ap r.pairs.length cp, .slice ta r.types.length ct, .int .i64 r.master, .slice ai r.items.length ci] 41)).alloc (.cells #[.int .i64 0, .int .i64 0, .int .i64 0, .int .i64 0, .int .i64 0, .int .i64 0, .int .i64 0] 54)).alloc (.cells #[.int .i64 0, .int .i64 0, .int .i64 0, .int .i64 0, .int .i64 0, .int .i64 0, .int .i64 0] 54)) = wb at *
 obtain ⟨Bwb, Kawb, Zawb, Kzwb, Zzwb, Kmwb, Zmwb⟩ := en3 hW
 have Ga : w.heap.size ≤ w.heap.size := by omega
 have Gz : w.heap.size ≤ (w.heap.size + 1) := by omega
 have Nqaz : w.heap.size ≠ (w.heap.size + 1) := by omega
 have Nqza : (w.heap.size + 1) ≠ w.heap.size := by omega
 have Gm : w.heap.size ≤ (w.heap.size + 1 + 1) := by omega
 have Nqam : w.heap.size ≠ (w.heap.size + 1 + 1) := by omega
 have Nqma : (w.heap.size + 1 + 1) ≠ w.heap.size := by omega
 have Nqzm : (w.heap.size + 1) ≠ (w.heap.size + 1 + 1) := by omega
 have Nqmz : (w.heap.size + 1 + 1) ≠ (w.heap.size + 1) := by omega
 clear hW
 go_loopw [7, 8] (fun f i wr => ∃ (k : Nat) (m : TypeV) (bo : Bool), k ≤ r.types.length ∧ i = .int .i64 k ∧ f = .bool bo ∧ (leastT (holding r us (r.types.take k))).isSome = bo ∧ (leastT (holding r us (r.types.take k))).getD TypeV.zero = m ∧ Blk wr w.heap.size [.int .i64 r.way, .int .i64 r.pal.wd, .int .i64 r.pal.dp, .int .i64 r.pal.ht, .int .i64 r.pal.gram, .int .i64 r.classes, .slice ap r.pairs.length cp, .slice ta r.types.length ct, .int .i64 r.master, .slice ai r.items.length ci] ∧ Blk wr (w.heap.size + 1) [.int .i64 0, .int .i64 0, .int .i64 0, .int .i64 0, .int .i64 0, .int .i64 0, .int .i64 0] ∧ Blk wr (w.heap.size + 1 + 1) [.int .i64 m.id, .int .i64 m.wd, .int .i64 m.ht, .int .i64 m.dp, .int .i64 m.tare, .int .i64 m.gram, .int .i64 m.cost] ∧ w.heap.size + 1 + 1 < wr.heap.size ∧ Below w.heap.size w wr) (fun _ i _ => r.types.length - (intOf i).toNat)
 case atStart => exact ⟨0, TypeV.zero, false, Nat.zero_le _, rfl, rfl, rfl, rfl, unhide Kawb, unhide Kzwb, unhide Kmwb, Zmwb, unhide Bwb⟩
 case round =>
  clear Kawb Kzwb Kmwb Zmwb Zzwb Zawb Bwb Nqaz Nqza Nqam Nqma Nqzm Nqmz
  obtain ⟨k, m, bo, hk, rfl, rfl, hbo, hm, ka, kz, km, Zmwr, hb⟩ := hrel
  have Kawr := hide ka
  have Kzwr := hide kz
  have Kmwr := hide km
  have Zzwr : w.heap.size + 1 < wr.heap.size := by omega
  have Zawr : w.heap.size < wr.heap.size := by omega
  have Bwr := hide hb
  have HM := hide hm
  have HBO := hide hbo
  have Nqzm : w.heap.size + 1 ≠ w.heap.size + 1 + 1 := by omega
  have Nqam : w.heap.size ≠ w.heap.size + 1 + 1 := by omega
  clear kz km ka hm hbo hb
  by_cases hlk : k < r.types.length
  case neg =>
   have HE1 : Hid (cheapV r us = m) := by rw [Hid, ← unhide HM, List.take_of_length_le (by omega), cheapV]
   have HE2 : Hid (cheapB r us = bo) := by rw [Hid, ← unhide HBO, List.take_of_length_le (by omega), cheapB]
   obtain ⟨m0, m1, m2, m3, m4, m5, m6⟩ := Blk.cs7 Kmwr.out
   obtain ⟨z0, zf0, z1, zf1, z2, zf2, z3, zf3, z4, zf4, z5, zf5, z6, zf6⟩ := Blk.cf7 Kzwr.out
   obtain ⟨a0, a1, a2, a3, a4, a5, a6, a7, a8, a9⟩ := Blk.cs10 Kawr.out
   have CC : Blk (((((((wr.setCell ⟨w.heap.size + 1, 0, none⟩ (.int .i64 m.id)).setCell ⟨w.heap.size + 1, 1, none⟩ (.int .i64 m.wd)).setCell ⟨w.heap.size + 1, 2, none⟩ (.int .i64 m.ht)).setCell ⟨w.heap.size + 1, 3, none⟩ (.int .i64 m.dp)).setCell ⟨w.heap.size + 1, 4, none⟩ (.int .i64 m.tare)).setCell ⟨w.heap.size + 1, 5, none⟩ (.int .i64 m.gram)).setCell ⟨w.heap.size + 1, 6, none⟩ (.int .i64 m.cost)) (w.heap.size + 1) [.int .i64 m.id, .int .i64 m.wd, .int .i64 m.ht, .int .i64 m.dp, .int .i64 m.tare, .int .i64 m.gram, .int .i64 m.cost] := Blk.fill7 Kzwr.out
   obtain ⟨e0, e1, e2, e3, e4, e5, e6⟩ := Blk.cs7 CC
   clear CC
   go_wp2
   refine bodyPost_ret (v := .tuple #[.agg #[.int .i64 m.id, .int .i64 m.wd, .int .i64 m.ht, .int .i64 m.dp, .int .i64 m.tare, .int .i64 m.gram, .int .i64 m.cost], .bool bo]) (by simp [results, Tryz.results17, go_sem, e0, e1, e2, e3, e4, e5, e6]) rfl ⟨ret_type HE1.out.symm HE2.out.symm, ?_⟩
   exact below_fill7 Bwr.out (by omega)
  obtain ⟨b, off, hta, hc⟩ := (HR.out.mono Bwr.out).2.1.2 k hlk
  simp only at hta
  have HHIT := hide (holding_hit (r := r) (us := us) hlk)
  have HMISS := hide (holding_miss (r := r) (us := us) hlk)
  generalize r.types.getD k default = q at hc HHIT HMISS
  subst hta
  have d0 : wr.cell? ⟨b, off + k * 7, none⟩ = some (.int .i64 q.id) := hc 0 (by omega)
  have d1 : wr.cell? ⟨b, off + k * 7 + 1, none⟩ = some (.int .i64 q.wd) := hc 1 (by omega)
  have d2 : wr.cell? ⟨b, off + k * 7 + 2, none⟩ = some (.int .i64 q.ht) := hc 2 (by omega)
  have d3 : wr.cell? ⟨b, off + k * 7 + 3, none⟩ = some (.int .i64 q.dp) := hc 3 (by omega)
  have d4 : wr.cell? ⟨b, off + k * 7 + 4, none⟩ = some (.int .i64 q.tare) := hc 4 (by omega)
  have d5 : wr.cell? ⟨b, off + k * 7 + 5, none⟩ = some (.int .i64 q.gram) := hc 5 (by omega)
  have d6 : wr.cell? ⟨b, off + k * 7 + 6, none⟩ = some (.int .i64 q.cost) := hc 6 (by omega)
  clear hc
  obtain ⟨ca0, ca1, ca2, ca3, ca4, ca5, ca6, ca7, ca8, ca9⟩ := Blk.cs10 Kawr.out
  go_wp2_with fail
  clear ca0 ca1 ca2 ca3 ca4 ca5 ca6 ca7 ca8 ca9 d0 d1 d2 d3 d4 d5 d6
  generalize hW : (wr.alloc (.cells #[.int .i64 q.id, .int .i64 q.wd, .int .i64 q.ht, .int .i64 q.dp, .int .i64 q.tare, .int .i64 q.gram, .int .i64 q.cost] 54)) = v1 at *
  obtain ⟨hb, Kxv1, Zxv1⟩ := en1 hW
  have hb := unhide hb
  have Bv1 := hide (Bwr.out.trans (hb.mono Bwr.out.size))
  have Gx : w.heap.size ≤ wr.heap.size := Bwr.out.size
  have Kav1 := hide (Blk.below hb Zawr Kawr.out)
  have Zav1 := Nat.lt_of_lt_of_le Zawr hb.size
  have Kzv1 := hide (Blk.below hb Zzwr Kzwr.out)
  have Zzv1 := Nat.lt_of_lt_of_le Zzwr hb.size
  have Kmv1 := hide (Blk.below hb Zmwr Kmwr.out)
  have Zmv1 := Nat.lt_of_lt_of_le Zmwr hb.size
  have Nqax : w.heap.size ≠ wr.heap.size := Nat.ne_of_lt Zawr
  have Nqxa := Ne.symm Nqax
  have Nqzx : (w.heap.size + 1) ≠ wr.heap.size := Nat.ne_of_lt Zzwr
  have Nqxz := Ne.symm Nqzx
  have Nqmx : (w.heap.size + 1 + 1) ≠ wr.heap.size := Nat.ne_of_lt Zmwr
  have Nqxm := Ne.symm Nqmx
  clear hb hW
  clear Bwr Kawr Zawr Kzwr Zzwr Kmwr Zmwr
  refine (specHolds_any r _ _ _ _ us q _ (HR.out.mono Bv1.out) hs (HU.out.mono Bv1.out) hn).mono ?_
  rintro e v2 ⟨rfl, hb⟩
  have Bv2 := hide (Bv1.out.trans (hb.mono Bv1.out.size))
  have Kav2 := hide (Blk.below hb Zav1 Kav1.out)
  have Zav2 := Nat.lt_of_lt_of_le Zav1 hb.size
  have Kzv2 := hide (Blk.below hb Zzv1 Kzv1.out)
  have Zzv2 := Nat.lt_of_lt_of_le Zzv1 hb.size
  have Kmv2 := hide (Blk.below hb Zmv1 Kmv1.out)
  have Zmv2 := Nat.lt_of_lt_of_le Zmv1 hb.size
  have Kxv2 := hide (Blk.below hb Zxv1 Kxv1.out)
  have Zxv2 := Nat.lt_of_lt_of_le Zxv1 hb.size
  clear hb
  clear Bv1 Kav1 Zav1 Kzv1 Zzv1 Kmv1 Zmv1 Kxv1 Zxv1
  cases hf : holdsR r us q
  case false =>
   have HE : Hid (holding r us (r.types.take (k + 1)) = holding r us (r.types.take k)) := HMISS.out hf
   have HE1 : Hid ((leastT (holding r us (r.types.take (k + 1)))).getD TypeV.zero = m) := by rw [Hid, unhide HE]; exact unhide HM
   have HE2 : Hid ((leastT (holding r us (r.types.take (k + 1)))).isSome = bo) := by rw [Hid, unhide HE]; exact unhide HBO
   go_wp2
   go_roundw
   case rel => exact ⟨k + 1, m, bo, by omega, by go_num, rfl, unhide HE2, unhide HE1, unhide Kav2, unhide Kzv2, unhide Kmv2, Zmv2, unhide Bv2⟩
   case measure => simp [intOf]; omega
  have HE : Hid (leastT (holding r us (r.types.take (k + 1))) = minT (leastT (holding r us (r.types.take k))) q) := by rw [Hid, HHIT.out hf, leastT_snoc]
  obtain ⟨cx0, cx1, cx2, cx3, cx4, cx5, cx6⟩ := Blk.cs7 Kxv2.out
  obtain ⟨cm0, fm0, cm1, fm1, cm2, fm2, cm3, fm3, cm4, fm4, cm5, fm5, cm6, fm6⟩ := Blk.cf7 Kmv2.out
  cases bo
  case false =>
   have HE0 : Hid (leastT (holding r us (r.types.take (k + 1))) = some q) := by
    have h1 := unhide HBO
    rw [Option.isSome_eq_false_iff, Option.isNone_iff_eq_none] at h1
    rw [Hid, unhide HE, h1]; rfl
   have HE1 : Hid ((leastT (holding r us (r.types.take (k + 1)))).getD TypeV.zero = q) := by rw [Hid, unhide HE0]; rfl
   have HE2 : Hid ((leastT (holding r us (r.types.take (k + 1)))).isSome = true) := by rw [Hid, unhide HE0]; rfl
   go_wp2
   go_roundw
   case rel => exact ⟨k + 1, q, true, by omega, by go_num, rfl, unhide HE2, unhide HE1, Blk.others7 Kav2.out Nqam, Blk.others7 Kzv2.out Nqzm, Blk.fill7 Kmv2.out, by simpa using Zmv2, below_fill7 Bv2.out (by omega)⟩
   case measure => simp [intOf]; omega
  have HEM : Hid (leastT (holding r us (r.types.take k)) = some m) := by
   obtain ⟨y, hy⟩ := Option.isSome_iff_exists.1 HBO.out
   have h2 := unhide HM
   rw [hy] at h2
   rw [Hid, hy]; exact congrArg some h2
  cases hl : lessT q m
  case true =>
   have HE0 : Hid (leastT (holding r us (r.types.take (k + 1))) = some q) := by rw [Hid, unhide HE, unhide HEM]; simp [minT, hl]
   have HE1 : Hid ((leastT (holding r us (r.types.take (k + 1)))).getD TypeV.zero = q) := by rw [Hid, unhide HE0]; rfl
   have HE2 : Hid ((leastT (holding r us (r.types.take (k + 1)))).isSome = true) := by rw [Hid, unhide HE0]; rfl
   simp only [lessT, Bool.or_eq_true, Bool.and_eq_true, decide_eq_true_eq] at hl
   by_cases h1 : q.cost < m.cost
   · clear hl
     go_wp2
     go_roundw
     case rel => exact ⟨k + 1, q, true, by omega, by go_num, rfl, unhide HE2, unhide HE1, Blk.others7 Kav2.out Nqam, Blk.others7 Kzv2.out Nqzm, Blk.fill7 Kmv2.out, by simpa using Zmv2, below_fill7 Bv2.out (by omega)⟩
     case measure => simp [intOf]; omega
   · obtain ⟨h2, h3⟩ : q.cost = m.cost ∧ q.id < m.id := by rcases hl with h | h; exact absurd h h1; exact h
     have h4 : (q.cost == m.cost) = true := by simp [h2]
     have h5 : decide (q.cost < m.cost) = false := by simp [h1]
     have h6 : decide (q.id < m.id) = true := by simp [h3]
     clear hl h2 h1
     go_wp2
     go_roundw
     case rel => exact ⟨k + 1, q, true, by omega, by go_num, rfl, unhide HE2, unhide HE1, Blk.others7 Kav2.out Nqam, Blk.others7 Kzv2.out Nqzm, Blk.fill7 Kmv2.out, by simpa using Zmv2, below_fill7 Bv2.out (by omega)⟩
     case measure => simp [intOf]; omega
  case false =>
   have HE0 : Hid (leastT (holding r us (r.types.take (k + 1))) = some m) := by rw [Hid, unhide HE, unhide HEM]; simp [minT, hl]
   have HE1 : Hid ((leastT (holding r us (r.types.take (k + 1)))).getD TypeV.zero = m) := by rw [Hid, unhide HE0]; rfl
   have HE2 : Hid ((leastT (holding r us (r.types.take (k + 1)))).isSome = true) := by rw [Hid, unhide HE0]; rfl
   simp only [lessT, Bool.or_eq_false_iff, Bool.and_eq_false_iff, decide_eq_false_iff_not] at hl
   obtain ⟨h1, h2⟩ := hl
   have h5 : decide (q.cost < m.cost) = false := by simp [h1]
   by_cases h3 : q.cost = m.cost
   · have h7 : ¬ q.id < m.id := by rcases h2 with h | h; exact absurd h3 h; exact h
     have h4 : (q.cost == m.cost) = true := by simp [h3]
     have h6 : decide (q.id < m.id) = false := by simp [h7]
     clear h1 h2 h3
     go_wp2
     go_roundw
     case rel => exact ⟨k + 1, m, true, by omega, by go_num, rfl, unhide HE2, unhide HE1, unhide Kav2, unhide Kzv2, unhide Kmv2, Zmv2, unhide Bv2⟩
     case measure => simp [intOf]; omega
   · have h4 : (q.cost == m.cost) = false := by simp [h3]
     clear h1 h2 h3
     go_wp2
     go_roundw
     case rel => exact ⟨k + 1, m, true, by omega, by go_num, rfl, unhide HE2, unhide HE1, unhide Kav2, unhide Kzv2, unhide Kmv2, Zmv2, unhide Bv2⟩
     case measure => simp [intOf]; omega
end Go.Proofs.YtcblpoeeembniabGreatDoor
