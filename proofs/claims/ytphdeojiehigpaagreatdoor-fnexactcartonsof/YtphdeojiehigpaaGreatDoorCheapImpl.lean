/- The cheapest type that holds: the program. -/
import Derived.Test.YtphdeojiehigpaaGreatDoorCheapLeast
import Derived.Test.YtphdeojiehigpaaGreatDoorHoldsImpl
import Derived.Test.YtphdeojiehigpaaGreatDoorLowPlain
import Derived.Deep.DeepMust
import Derived.Deep.DeepCutAuto
import Derived.Deep.RegionHeld3
namespace Go.Proofs.YtphdeojiehigpaaGreatDoor
open Go Go.RowKit
set_option linter.unusedVariables false
set_option linter.unusedSimpArgs false

theorem news7 (W : World) (cs : List Value) (t : TypeId) : ∀ j u, cs[j]? = some u → (W.alloc (.cells cs.toArray t)).cell? ((⟨W.heap.size, 0, none⟩ : Addr).add j) = some u := fun j u hu => (Blk.alloc W cs t).news j u hu
theorem app_type {B n g cap : Nat} {w wr w1 : World} {v' : Value} {L : List TypeV} {q : TypeV} {t : TypeId}
    (hown : wr.ownsRow B 55 7 (.slice (some ⟨g, 0, none⟩) n cap) n (L.flatMap TypeV.cells)) (hbel : Below B w wr) (hB : B ≤ wr.heap.size)
    (h1 : w1.ownsRow B 55 7 v' (n + 1) (L.flatMap TypeV.cells ++ TypeV.cells q)) (h2 : (wr.alloc (.cells #[.int .i64 q.id, .int .i64 q.wd, .int .i64 q.ht, .int .i64 q.dp, .int .i64 q.tare, .int .i64 q.gram, .int .i64 q.cost] t)).grownBy w1 (Value.slice (some ⟨g, 0, none⟩) n cap).ownBlock)
    (h3 : v' = .slice none 0 0 ↔ Value.slice (some ⟨g, 0, none⟩) n cap = .slice none 0 0 ∧ 1 = 0) :
    ∃ g' cap', v' = .slice (some ⟨g', 0, none⟩) (n + 1) cap' ∧ w1.ownsRow B 55 7 (.slice (some ⟨g', 0, none⟩) (n + 1) cap') (n + 1) ((L ++ [q]).flatMap TypeV.cells) ∧ Below B w w1 := by
  have hne : ¬ v' = .slice none 0 0 := fun h => by have := (h3.1 h).2; omega
  obtain ⟨g', cap', rfl⟩ := own_shape h1 hne
  refine ⟨g', cap', rfl, by simpa using h1, ?_⟩
  refine (hbel.alloc hB (.cells #[.int .i64 q.id, .int .i64 q.wd, .int .i64 q.ht, .int .i64 q.dp, .int .i64 q.tare, .int .i64 q.gram, .int .i64 q.cost] t)).grown h2 (by simp; omega) ?_
  intro j hj
  have : g = j := by simpa [Value.ownBlock] using hj
  rw [← this]
  exact own_base hown
set_option maxRecDepth 100000 in
set_option maxHeartbeats 4000000 in
theorem cheapest_any (r : ReqV) (h : ReqH) (a : Option Addr) (n c : Nat) (us : List Int) (w : World) (hr : RdReq w r h) (hs : r.small) (hg : ErrT w) (hu : Rd w a n us) (hn : n ≤ 1048600) :
    Calls Tryz.prog 23 #[reqVal r h, .slice a n c] w fun e w' => e = .returned (.tuple #[.agg #[.int .i64 (cheapV r us).id, .int .i64 (cheapV r us).wd, .int .i64 (cheapV r us).ht, .int .i64 (cheapV r us).dp, .int .i64 (cheapV r us).tare, .int .i64 (cheapV r us).gram, .int .i64 (cheapV r us).cost], .bool (cheapB r us)]) ∧ Below w.heap.size w w' := by
  have htl : r.types.length ≤ 1048576 := by unfold ReqV.small at hs; omega
  obtain ⟨i0, hi0, hz0, hz1, hz2⟩ := info_parts Tryz.infoType
  have HU := hide hu
  have HR := hide hr
  clear hr hu
  have HG := hide hg
  clear hg
  obtain ⟨ap, ta, ai, cp, ct, ci⟩ := h
  unfold reqVal
  go_enter Tryz.func23, Tryz.ntmps23
  go_upto_region 1 with fail
  have Bwb : Hid (Below w.heap.size w ((w.alloc (.cells #[.int .i64 r.way, .int .i64 r.pal.wd, .int .i64 r.pal.dp, .int .i64 r.pal.ht, .int .i64 r.pal.gram, .int .i64 r.classes, .slice ap r.pairs.length cp, .slice ta r.types.length ct, .int .i64 r.master, .slice ai r.items.length ci] 40)).alloc (.cells #[.int .i64 0, .int .i64 0, .int .i64 0, .int .i64 0, .int .i64 0, .int .i64 0, .int .i64 0] 55))) := (((Below.refl _ _).alloc (by simp) _).alloc (by simp) _)
  have Kawb : Hid (Blk ((w.alloc (.cells #[.int .i64 r.way, .int .i64 r.pal.wd, .int .i64 r.pal.dp, .int .i64 r.pal.ht, .int .i64 r.pal.gram, .int .i64 r.classes, .slice ap r.pairs.length cp, .slice ta r.types.length ct, .int .i64 r.master, .slice ai r.items.length ci] 40)).alloc (.cells #[.int .i64 0, .int .i64 0, .int .i64 0, .int .i64 0, .int .i64 0, .int .i64 0, .int .i64 0] 55)) w.heap.size [.int .i64 r.way, .int .i64 r.pal.wd, .int .i64 r.pal.dp, .int .i64 r.pal.ht, .int .i64 r.pal.gram, .int .i64 r.classes, .slice ap r.pairs.length cp, .slice ta r.types.length ct, .int .i64 r.master, .slice ai r.items.length ci]) := ((Blk.allocAt (w := w) [.int .i64 r.way, .int .i64 r.pal.wd, .int .i64 r.pal.dp, .int .i64 r.pal.ht, .int .i64 r.pal.gram, .int .i64 r.classes, .slice ap r.pairs.length cp, .slice ta r.types.length ct, .int .i64 r.master, .slice ai r.items.length ci] (by simp)).allocOld (by simp) _)
  have Zawb : w.heap.size < ((w.alloc (.cells #[.int .i64 r.way, .int .i64 r.pal.wd, .int .i64 r.pal.dp, .int .i64 r.pal.ht, .int .i64 r.pal.gram, .int .i64 r.classes, .slice ap r.pairs.length cp, .slice ta r.types.length ct, .int .i64 r.master, .slice ai r.items.length ci] 40)).alloc (.cells #[.int .i64 0, .int .i64 0, .int .i64 0, .int .i64 0, .int .i64 0, .int .i64 0, .int .i64 0] 55)).heap.size := by simp <;> omega
  have Ga : w.heap.size ≤ w.heap.size := by omega
  have Kzwb : Hid (Blk ((w.alloc (.cells #[.int .i64 r.way, .int .i64 r.pal.wd, .int .i64 r.pal.dp, .int .i64 r.pal.ht, .int .i64 r.pal.gram, .int .i64 r.classes, .slice ap r.pairs.length cp, .slice ta r.types.length ct, .int .i64 r.master, .slice ai r.items.length ci] 40)).alloc (.cells #[.int .i64 0, .int .i64 0, .int .i64 0, .int .i64 0, .int .i64 0, .int .i64 0, .int .i64 0] 55)) (w.heap.size + 1) [.int .i64 0, .int .i64 0, .int .i64 0, .int .i64 0, .int .i64 0, .int .i64 0, .int .i64 0]) := (Blk.allocAt (w := (w.alloc (.cells #[.int .i64 r.way, .int .i64 r.pal.wd, .int .i64 r.pal.dp, .int .i64 r.pal.ht, .int .i64 r.pal.gram, .int .i64 r.classes, .slice ap r.pairs.length cp, .slice ta r.types.length ct, .int .i64 r.master, .slice ai r.items.length ci] 40))) [.int .i64 0, .int .i64 0, .int .i64 0, .int .i64 0, .int .i64 0, .int .i64 0, .int .i64 0] (by simp))
  have Zzwb : (w.heap.size + 1) < ((w.alloc (.cells #[.int .i64 r.way, .int .i64 r.pal.wd, .int .i64 r.pal.dp, .int .i64 r.pal.ht, .int .i64 r.pal.gram, .int .i64 r.classes, .slice ap r.pairs.length cp, .slice ta r.types.length ct, .int .i64 r.master, .slice ai r.items.length ci] 40)).alloc (.cells #[.int .i64 0, .int .i64 0, .int .i64 0, .int .i64 0, .int .i64 0, .int .i64 0, .int .i64 0] 55)).heap.size := by simp
  have Gz : w.heap.size ≤ (w.heap.size + 1) := by omega
  have Nqaz : w.heap.size ≠ (w.heap.size + 1) := by omega
  have Nqza : (w.heap.size + 1) ≠ w.heap.size := by omega
  generalize ((w.alloc (.cells #[.int .i64 r.way, .int .i64 r.pal.wd, .int .i64 r.pal.dp, .int .i64 r.pal.ht, .int .i64 r.pal.gram, .int .i64 r.classes, .slice ap r.pairs.length cp, .slice ta r.types.length ct, .int .i64 r.master, .slice ai r.items.length ci] 40)).alloc (.cells #[.int .i64 0, .int .i64 0, .int .i64 0, .int .i64 0, .int .i64 0, .int .i64 0, .int .i64 0] 55)) = wb at *
  have ca7 : wb.cell? ⟨w.heap.size, 7, none⟩ = some (.slice ta r.types.length ct) := ((unhide Kawb) 7 (by simp)).1
  go_wp2_with fail
  clear ca7
  have HO0 : Hid ((wb.alloc (.cells #[] 55)).ownsRow wb.heap.size 55 7 (.slice (some ⟨wb.heap.size, 0, none⟩) 0 0) 0 []) := own_lit0 wb (Nat.le_refl _)
  have HB0 : Hid (Below wb.heap.size wb (wb.alloc (.cells #[] 55))) := (Below.refl _ _).alloc (Nat.le_refl _) _
  go_loopw [6, 13] (fun s i wr => ∃ (k g cap : Nat) (L : List TypeV), k ≤ r.types.length ∧ i = .int .i64 k ∧ s = .slice (some ⟨g, 0, none⟩) L.length cap ∧ L = holding r us (r.types.take k) ∧ wr.ownsRow wb.heap.size 55 7 (.slice (some ⟨g, 0, none⟩) L.length cap) L.length (L.flatMap TypeV.cells) ∧ Below wb.heap.size wb wr) (fun _ i _ => r.types.length - (intOf i).toNat)
  case atStart => exact ⟨0, wb.heap.size, 0, [], Nat.zero_le _, rfl, rfl, rfl, unhide HO0, unhide HB0⟩
  case round =>
    clear HO0 HB0
    obtain ⟨k, g, cap, L, hk, rfl, rfl, hL, how, hb⟩ := hrel
    have HL := hide hL
    have hLl : L.length ≤ 1048576 := by rw [hL]; have h1 := holding_len r us (r.types.take k); rw [List.length_take] at h1; omega
    have HO := hide how
    have HBB := hide hb
    have Bwr := hide ((unhide Bwb).trans (hb.mono (unhide Bwb).size))
    have Kawr := hide (Blk.below hb Zawb (unhide Kawb))
    have Zawr := Nat.lt_of_lt_of_le Zawb hb.size
    have Kzwr := hide (Blk.below hb Zzwb (unhide Kzwb))
    have Zzwr := Nat.lt_of_lt_of_le Zzwb hb.size
    clear hL how
    by_cases hlk : k < r.types.length
    case neg =>
      have HF : Hid (holding r us r.types = L) := by rw [Hid, unhide HL, List.take_of_length_le (by omega)]
      have HRD : Hid (RdR TypeV.cells 7 wr (some ⟨g, 0, none⟩) L.length L) := RdR.of_owns (unhide HO) rfl (flat_at (cells := TypeV.cells) TypeV.len L)
      clear hb
      go_wp2_with fail
      refine (leastOf_any (some ⟨g, 0, none⟩) L.length cap L wr (unhide HRD) (by omega)).mono ?_
      rintro e w2 ⟨rfl, hb⟩
      have HE1 : Hid ((leastT L).getD TypeV.zero = cheapV r us) := by rw [Hid, cheapV, unhide HF]
      have HE2 : Hid ((leastT L).isSome = cheapB r us) := by rw [Hid, cheapB, unhide HF]
      rw [unhide HE1, unhide HE2]
      have HB2 := hide ((unhide Bwr).trans (hb.mono (unhide Bwr).size))
      have KZ := hide (Blk.below hb Zzwr (unhide Kzwr))
      clear hb HO HL HRD HE1 HE2 HF
      have z0 : w2.cell? ⟨w.heap.size + 1, 0, none⟩ = some (.int .i64 0) := ((unhide KZ) 0 (by simp)).1
      have zf0 : w2.frozen? ⟨w.heap.size + 1, 0, none⟩ = false := ((unhide KZ) 0 (by simp)).2
      have z1 : w2.cell? ⟨w.heap.size + 1, 1, none⟩ = some (.int .i64 0) := ((unhide KZ) 1 (by simp)).1
      have zf1 : w2.frozen? ⟨w.heap.size + 1, 1, none⟩ = false := ((unhide KZ) 1 (by simp)).2
      have z2 : w2.cell? ⟨w.heap.size + 1, 2, none⟩ = some (.int .i64 0) := ((unhide KZ) 2 (by simp)).1
      have zf2 : w2.frozen? ⟨w.heap.size + 1, 2, none⟩ = false := ((unhide KZ) 2 (by simp)).2
      have z3 : w2.cell? ⟨w.heap.size + 1, 3, none⟩ = some (.int .i64 0) := ((unhide KZ) 3 (by simp)).1
      have zf3 : w2.frozen? ⟨w.heap.size + 1, 3, none⟩ = false := ((unhide KZ) 3 (by simp)).2
      have z4 : w2.cell? ⟨w.heap.size + 1, 4, none⟩ = some (.int .i64 0) := ((unhide KZ) 4 (by simp)).1
      have zf4 : w2.frozen? ⟨w.heap.size + 1, 4, none⟩ = false := ((unhide KZ) 4 (by simp)).2
      have z5 : w2.cell? ⟨w.heap.size + 1, 5, none⟩ = some (.int .i64 0) := ((unhide KZ) 5 (by simp)).1
      have zf5 : w2.frozen? ⟨w.heap.size + 1, 5, none⟩ = false := ((unhide KZ) 5 (by simp)).2
      have z6 : w2.cell? ⟨w.heap.size + 1, 6, none⟩ = some (.int .i64 0) := ((unhide KZ) 6 (by simp)).1
      have zf6 : w2.frozen? ⟨w.heap.size + 1, 6, none⟩ = false := ((unhide KZ) 6 (by simp)).2
      have CC : Blk (((((((w2.setCell ⟨w.heap.size + 1, 0, none⟩ (.int .i64 (cheapV r us).id)).setCell ⟨w.heap.size + 1, 1, none⟩ (.int .i64 (cheapV r us).wd)).setCell ⟨w.heap.size + 1, 2, none⟩ (.int .i64 (cheapV r us).ht)).setCell ⟨w.heap.size + 1, 3, none⟩ (.int .i64 (cheapV r us).dp)).setCell ⟨w.heap.size + 1, 4, none⟩ (.int .i64 (cheapV r us).tare)).setCell ⟨w.heap.size + 1, 5, none⟩ (.int .i64 (cheapV r us).gram)).setCell ⟨w.heap.size + 1, 6, none⟩ (.int .i64 (cheapV r us).cost)) (w.heap.size + 1) [.int .i64 (cheapV r us).id, .int .i64 (cheapV r us).wd, .int .i64 (cheapV r us).ht, .int .i64 (cheapV r us).dp, .int .i64 (cheapV r us).tare, .int .i64 (cheapV r us).gram, .int .i64 (cheapV r us).cost] := Blk.fill7 (unhide KZ)
      have e0 : (((((((w2.setCell ⟨w.heap.size + 1, 0, none⟩ (.int .i64 (cheapV r us).id)).setCell ⟨w.heap.size + 1, 1, none⟩ (.int .i64 (cheapV r us).wd)).setCell ⟨w.heap.size + 1, 2, none⟩ (.int .i64 (cheapV r us).ht)).setCell ⟨w.heap.size + 1, 3, none⟩ (.int .i64 (cheapV r us).dp)).setCell ⟨w.heap.size + 1, 4, none⟩ (.int .i64 (cheapV r us).tare)).setCell ⟨w.heap.size + 1, 5, none⟩ (.int .i64 (cheapV r us).gram)).setCell ⟨w.heap.size + 1, 6, none⟩ (.int .i64 (cheapV r us).cost)).cell? ⟨w.heap.size + 1, 0, none⟩ = some (.int .i64 (cheapV r us).id) := (CC 0 (by simp)).1
      have e1 : (((((((w2.setCell ⟨w.heap.size + 1, 0, none⟩ (.int .i64 (cheapV r us).id)).setCell ⟨w.heap.size + 1, 1, none⟩ (.int .i64 (cheapV r us).wd)).setCell ⟨w.heap.size + 1, 2, none⟩ (.int .i64 (cheapV r us).ht)).setCell ⟨w.heap.size + 1, 3, none⟩ (.int .i64 (cheapV r us).dp)).setCell ⟨w.heap.size + 1, 4, none⟩ (.int .i64 (cheapV r us).tare)).setCell ⟨w.heap.size + 1, 5, none⟩ (.int .i64 (cheapV r us).gram)).setCell ⟨w.heap.size + 1, 6, none⟩ (.int .i64 (cheapV r us).cost)).cell? ⟨w.heap.size + 1, 1, none⟩ = some (.int .i64 (cheapV r us).wd) := (CC 1 (by simp)).1
      have e2 : (((((((w2.setCell ⟨w.heap.size + 1, 0, none⟩ (.int .i64 (cheapV r us).id)).setCell ⟨w.heap.size + 1, 1, none⟩ (.int .i64 (cheapV r us).wd)).setCell ⟨w.heap.size + 1, 2, none⟩ (.int .i64 (cheapV r us).ht)).setCell ⟨w.heap.size + 1, 3, none⟩ (.int .i64 (cheapV r us).dp)).setCell ⟨w.heap.size + 1, 4, none⟩ (.int .i64 (cheapV r us).tare)).setCell ⟨w.heap.size + 1, 5, none⟩ (.int .i64 (cheapV r us).gram)).setCell ⟨w.heap.size + 1, 6, none⟩ (.int .i64 (cheapV r us).cost)).cell? ⟨w.heap.size + 1, 2, none⟩ = some (.int .i64 (cheapV r us).ht) := (CC 2 (by simp)).1
      have e3 : (((((((w2.setCell ⟨w.heap.size + 1, 0, none⟩ (.int .i64 (cheapV r us).id)).setCell ⟨w.heap.size + 1, 1, none⟩ (.int .i64 (cheapV r us).wd)).setCell ⟨w.heap.size + 1, 2, none⟩ (.int .i64 (cheapV r us).ht)).setCell ⟨w.heap.size + 1, 3, none⟩ (.int .i64 (cheapV r us).dp)).setCell ⟨w.heap.size + 1, 4, none⟩ (.int .i64 (cheapV r us).tare)).setCell ⟨w.heap.size + 1, 5, none⟩ (.int .i64 (cheapV r us).gram)).setCell ⟨w.heap.size + 1, 6, none⟩ (.int .i64 (cheapV r us).cost)).cell? ⟨w.heap.size + 1, 3, none⟩ = some (.int .i64 (cheapV r us).dp) := (CC 3 (by simp)).1
      have e4 : (((((((w2.setCell ⟨w.heap.size + 1, 0, none⟩ (.int .i64 (cheapV r us).id)).setCell ⟨w.heap.size + 1, 1, none⟩ (.int .i64 (cheapV r us).wd)).setCell ⟨w.heap.size + 1, 2, none⟩ (.int .i64 (cheapV r us).ht)).setCell ⟨w.heap.size + 1, 3, none⟩ (.int .i64 (cheapV r us).dp)).setCell ⟨w.heap.size + 1, 4, none⟩ (.int .i64 (cheapV r us).tare)).setCell ⟨w.heap.size + 1, 5, none⟩ (.int .i64 (cheapV r us).gram)).setCell ⟨w.heap.size + 1, 6, none⟩ (.int .i64 (cheapV r us).cost)).cell? ⟨w.heap.size + 1, 4, none⟩ = some (.int .i64 (cheapV r us).tare) := (CC 4 (by simp)).1
      have e5 : (((((((w2.setCell ⟨w.heap.size + 1, 0, none⟩ (.int .i64 (cheapV r us).id)).setCell ⟨w.heap.size + 1, 1, none⟩ (.int .i64 (cheapV r us).wd)).setCell ⟨w.heap.size + 1, 2, none⟩ (.int .i64 (cheapV r us).ht)).setCell ⟨w.heap.size + 1, 3, none⟩ (.int .i64 (cheapV r us).dp)).setCell ⟨w.heap.size + 1, 4, none⟩ (.int .i64 (cheapV r us).tare)).setCell ⟨w.heap.size + 1, 5, none⟩ (.int .i64 (cheapV r us).gram)).setCell ⟨w.heap.size + 1, 6, none⟩ (.int .i64 (cheapV r us).cost)).cell? ⟨w.heap.size + 1, 5, none⟩ = some (.int .i64 (cheapV r us).gram) := (CC 5 (by simp)).1
      have e6 : (((((((w2.setCell ⟨w.heap.size + 1, 0, none⟩ (.int .i64 (cheapV r us).id)).setCell ⟨w.heap.size + 1, 1, none⟩ (.int .i64 (cheapV r us).wd)).setCell ⟨w.heap.size + 1, 2, none⟩ (.int .i64 (cheapV r us).ht)).setCell ⟨w.heap.size + 1, 3, none⟩ (.int .i64 (cheapV r us).dp)).setCell ⟨w.heap.size + 1, 4, none⟩ (.int .i64 (cheapV r us).tare)).setCell ⟨w.heap.size + 1, 5, none⟩ (.int .i64 (cheapV r us).gram)).setCell ⟨w.heap.size + 1, 6, none⟩ (.int .i64 (cheapV r us).cost)).cell? ⟨w.heap.size + 1, 6, none⟩ = some (.int .i64 (cheapV r us).cost) := (CC 6 (by simp)).1
      clear CC
      go_wp2
      refine bodyPost_ret (v := .tuple #[.agg #[.int .i64 (cheapV r us).id, .int .i64 (cheapV r us).wd, .int .i64 (cheapV r us).ht, .int .i64 (cheapV r us).dp, .int .i64 (cheapV r us).tare, .int .i64 (cheapV r us).gram, .int .i64 (cheapV r us).cost], .bool (cheapB r us)]) (by simp [results, Tryz.results23, go_sem, e0, e1, e2, e3, e4, e5, e6]) rfl ⟨rfl, ?_⟩
      exact below_fill7 (unhide HB2) (by omega)
    obtain ⟨b, off, hta, hc⟩ := ((unhide HR).mono (unhide Bwr)).2.1.2 k hlk
    simp only at hta
    have HHIT := hide (holding_hit (r := r) (us := us) hlk)
    have HMISS := hide (holding_miss (r := r) (us := us) hlk)
    generalize r.types.getD k default = q at hc HHIT HMISS
    subst hta
    clear hb
    have d0 : wr.cell? ⟨b, off + k * 7, none⟩ = some (.int .i64 q.id) := hc 0 (by omega)
    have d1 : wr.cell? ⟨b, off + k * 7 + 1, none⟩ = some (.int .i64 q.wd) := hc 1 (by omega)
    have d2 : wr.cell? ⟨b, off + k * 7 + 2, none⟩ = some (.int .i64 q.ht) := hc 2 (by omega)
    have d3 : wr.cell? ⟨b, off + k * 7 + 3, none⟩ = some (.int .i64 q.dp) := hc 3 (by omega)
    have d4 : wr.cell? ⟨b, off + k * 7 + 4, none⟩ = some (.int .i64 q.tare) := hc 4 (by omega)
    have d5 : wr.cell? ⟨b, off + k * 7 + 5, none⟩ = some (.int .i64 q.gram) := hc 5 (by omega)
    have d6 : wr.cell? ⟨b, off + k * 7 + 6, none⟩ = some (.int .i64 q.cost) := hc 6 (by omega)
    clear hc
    obtain ⟨ca0, ca1, ca2, ca3, ca4, ca5, ca6, ca7, ca8, ca9⟩ := Blk.cs10 (unhide Kawr)
    go_wp2_with fail
    clear ca0 ca1 ca2 ca3 ca4 ca5 ca6 ca7 ca8 ca9 d0 d1 d2 d3 d4 d5 d6
    have HO1 := hide ((unhide HO).alloc (.cells #[.int .i64 q.id, .int .i64 q.wd, .int .i64 q.ht, .int .i64 q.dp, .int .i64 q.tare, .int .i64 q.gram, .int .i64 q.cost] 55))
    have HBB1 : Hid (Below wb.heap.size wb (wr.alloc (.cells #[.int .i64 q.id, .int .i64 q.wd, .int .i64 q.ht, .int .i64 q.dp, .int .i64 q.tare, .int .i64 q.gram, .int .i64 q.cost] 55))) := (unhide HBB).alloc (unhide HBB).size _
    have Bv1 : Hid (Below w.heap.size w (wr.alloc (.cells #[.int .i64 q.id, .int .i64 q.wd, .int .i64 q.ht, .int .i64 q.dp, .int .i64 q.tare, .int .i64 q.gram, .int .i64 q.cost] 55))) := (unhide Bwr).alloc (unhide Bwr).size _
    have Kxv1 : Hid (Blk (wr.alloc (.cells #[.int .i64 q.id, .int .i64 q.wd, .int .i64 q.ht, .int .i64 q.dp, .int .i64 q.tare, .int .i64 q.gram, .int .i64 q.cost] 55)) wr.heap.size [.int .i64 q.id, .int .i64 q.wd, .int .i64 q.ht, .int .i64 q.dp, .int .i64 q.tare, .int .i64 q.gram, .int .i64 q.cost]) := Blk.allocAt [.int .i64 q.id, .int .i64 q.wd, .int .i64 q.ht, .int .i64 q.dp, .int .i64 q.tare, .int .i64 q.gram, .int .i64 q.cost] rfl
    have Zxv1 : wr.heap.size < (wr.alloc (.cells #[.int .i64 q.id, .int .i64 q.wd, .int .i64 q.ht, .int .i64 q.dp, .int .i64 q.tare, .int .i64 q.gram, .int .i64 q.cost] 55)).heap.size := by simp
    have Gx : w.heap.size ≤ wr.heap.size := (unhide Bwr).size
    have Kav1 : Hid (Blk (wr.alloc (.cells #[.int .i64 q.id, .int .i64 q.wd, .int .i64 q.ht, .int .i64 q.dp, .int .i64 q.tare, .int .i64 q.gram, .int .i64 q.cost] 55)) w.heap.size [.int .i64 r.way, .int .i64 r.pal.wd, .int .i64 r.pal.dp, .int .i64 r.pal.ht, .int .i64 r.pal.gram, .int .i64 r.classes, .slice ap r.pairs.length cp, .slice (some ⟨b, off, none⟩) r.types.length ct, .int .i64 r.master, .slice ai r.items.length ci]) := (unhide Kawr).allocOld Zawr _
    have Zav1 : w.heap.size < (wr.alloc (.cells #[.int .i64 q.id, .int .i64 q.wd, .int .i64 q.ht, .int .i64 q.dp, .int .i64 q.tare, .int .i64 q.gram, .int .i64 q.cost] 55)).heap.size := by simp <;> omega
    have Nqax : w.heap.size ≠ wr.heap.size := Nat.ne_of_lt Zawr
    have Nqxa : wr.heap.size ≠ w.heap.size := Ne.symm Nqax
    have Kzv1 : Hid (Blk (wr.alloc (.cells #[.int .i64 q.id, .int .i64 q.wd, .int .i64 q.ht, .int .i64 q.dp, .int .i64 q.tare, .int .i64 q.gram, .int .i64 q.cost] 55)) (w.heap.size + 1) [.int .i64 0, .int .i64 0, .int .i64 0, .int .i64 0, .int .i64 0, .int .i64 0, .int .i64 0]) := (unhide Kzwr).allocOld Zzwr _
    have Zzv1 : (w.heap.size + 1) < (wr.alloc (.cells #[.int .i64 q.id, .int .i64 q.wd, .int .i64 q.ht, .int .i64 q.dp, .int .i64 q.tare, .int .i64 q.gram, .int .i64 q.cost] 55)).heap.size := by simp <;> omega
    have Nqzx : (w.heap.size + 1) ≠ wr.heap.size := Nat.ne_of_lt Zzwr
    have Nqxz : wr.heap.size ≠ (w.heap.size + 1) := Ne.symm Nqzx
    clear Bwr Kawr Zawr Kzwr Zzwr
    generalize (wr.alloc (.cells #[.int .i64 q.id, .int .i64 q.wd, .int .i64 q.ht, .int .i64 q.dp, .int .i64 q.tare, .int .i64 q.gram, .int .i64 q.cost] 55)) = v1 at *
    refine (holds_any r _ _ _ _ us q _ ((unhide HR).mono (unhide Bv1)) hs ((unhide HG).later (unhide Bv1)) ((unhide HU).mono (unhide Bv1)) hn).mono ?_
    rintro e v2 ⟨rfl, hb⟩
    have Bv2 := hide ((unhide Bv1).trans (hb.mono (unhide Bv1).size))
    have Kav2 := hide (Blk.below hb Zav1 (unhide Kav1))
    have Zav2 := Nat.lt_of_lt_of_le Zav1 hb.size
    have Kzv2 := hide (Blk.below hb Zzv1 (unhide Kzv1))
    have Zzv2 := Nat.lt_of_lt_of_le Zzv1 hb.size
    have Kxv2 := hide (Blk.below hb Zxv1 (unhide Kxv1))
    have Zxv2 := Nat.lt_of_lt_of_le Zxv1 hb.size
    have HO2 := hide (own_later (unhide HO1) hb)
    have HBB2 := hide ((unhide HBB1).trans (hb.mono (unhide HBB1).size))
    clear hb
    clear Bv1 Kav1 Zav1 Kzv1 Zzv1 Kxv1 Zxv1
    have cx0 : v2.cell? ⟨wr.heap.size, 0, none⟩ = some (.int .i64 q.id) := ((unhide Kxv2) 0 (by simp)).1
    have cx1 : v2.cell? ⟨wr.heap.size, 1, none⟩ = some (.int .i64 q.wd) := ((unhide Kxv2) 1 (by simp)).1
    have cx2 : v2.cell? ⟨wr.heap.size, 2, none⟩ = some (.int .i64 q.ht) := ((unhide Kxv2) 2 (by simp)).1
    have cx3 : v2.cell? ⟨wr.heap.size, 3, none⟩ = some (.int .i64 q.dp) := ((unhide Kxv2) 3 (by simp)).1
    have cx4 : v2.cell? ⟨wr.heap.size, 4, none⟩ = some (.int .i64 q.tare) := ((unhide Kxv2) 4 (by simp)).1
    have cx5 : v2.cell? ⟨wr.heap.size, 5, none⟩ = some (.int .i64 q.gram) := ((unhide Kxv2) 5 (by simp)).1
    have cx6 : v2.cell? ⟨wr.heap.size, 6, none⟩ = some (.int .i64 q.cost) := ((unhide Kxv2) 6 (by simp)).1
    clear HO HBB HO1 HBB1
    have hBs := (unhide HBB2).size
    cases hf : holdsR r us q
    · have HE : Hid (L = holding r us (r.types.take (k + 1))) := by rw [Hid, (unhide HMISS) hf]; exact unhide HL
      go_wp2
      go_roundw
      case rel => exact ⟨k + 1, g, cap, L, by omega, by go_num, rfl, unhide HE, unhide HO2, unhide HBB2⟩
      case measure => simp [intOf]; omega
    · have HE : Hid (L ++ [q] = holding r us (r.types.take (k + 1))) := by rw [Hid, (unhide HHIT) hf, ← unhide HL]
      go_wp2_with (first
        | (at_builtin; refine wpList_append_own _ rfl _ _ 37 rfl wb.heap.size 55 i0 (.agg #[.int .i64 0, .int .i64 0, .int .i64 0, .int .i64 0, .int .i64 0, .int .i64 0, .int .i64 0]) 7 56 Tryz.underlying37 hi0 hz0 hz1 hz2 rfl (by decide) (.slice (some ⟨g, 0, none⟩) L.length cap) L.length (L.flatMap TypeV.cells) rfl ((unhide HO2).alloc _) ⟨v2.heap.size, 0, none⟩ 1 1 [.int .i64 q.id, .int .i64 q.wd, .int .i64 q.ht, .int .i64 q.dp, .int .i64 q.tare, .int .i64 q.gram, .int .i64 q.cost] rfl rfl (news7 _ _ _) (by simp [Value.oneCell']) (by unfold maxLen; omega) (by omega) (by simp; omega) ?_; intro v' w10 h1 h2 h3)
        | go_in)
      obtain ⟨g', cap', hv, ho, hb⟩ := app_type (unhide HO2) (unhide HBB2) (by omega) h1 h2 h3
      have HO3 := hide ho
      have HB3 := hide hb
      clear ho hb h1 h2
      have HV := hide hv
      clear hv h3
      go_wp2
      go_roundw
      case rel => exact ⟨k + 1, g', cap', L ++ [q], by omega, by go_num, by rw [unhide HV]; simp, unhide HE, by have := unhide HO3; simpa using this, unhide HB3⟩
      case measure => simp [intOf]; omega
end Go.Proofs.YtphdeojiehigpaaGreatDoor
