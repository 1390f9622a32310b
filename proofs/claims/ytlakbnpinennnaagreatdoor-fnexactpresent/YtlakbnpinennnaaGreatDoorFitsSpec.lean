/- The model's Fits. -/
import Derived.Test.YtlakbnpinennnaaGreatDoorFitsPlain
import Derived.Test.YtlakbnpinennnaaGreatDoorBw
import Derived.Test.YtlakbnpinennnaaGreatDoorMergeWalk
import Derived.Deep.RegionHeld3
namespace Go.Proofs.YtlakbnpinennnaaGreatDoor
open Go.RowKit
set_option linter.unusedVariables false

theorem map_key_range (keys : List Int) : (List.range keys.length).map (key keys) = keys := by
  apply List.ext_getElem
  · simp
  · intro i h1 h2
    simp [key, h2]
theorem sortedKeys (keys : List Int) : ((sortP keys false (List.range keys.length)).map (key keys)).Perm keys ∧ upI ((sortP keys false (List.range keys.length)).map (key keys)) := by
  refine ⟨?_, ?_⟩
  · have h := (sortP_perm keys false (List.range keys.length)).map (key keys)
    rwa [map_key_range] at h
  · unfold upI
    rw [List.pairwise_map]
    refine (sortP_sorted keys false _ List.nodup_range).imp ?_
    intro a b h
    have := lts_of_bef h
    simp [lts] at this
    omega
theorem three_of {l : List Nat} (h : l.Perm (List.range 3)) : ∃ p q r, l = [p, q, r] ∧ p < 3 ∧ q < 3 ∧ r < 3 := by
  have hl := h.length_eq
  simp at hl
  match l, hl with
  | [p, q, r], _ =>
    refine ⟨p, q, r, rfl, ?_, ?_, ?_⟩
    · exact List.mem_range.1 (h.mem_iff.1 (by simp))
    · exact List.mem_range.1 (h.mem_iff.1 (by simp))
    · exact List.mem_range.1 (h.mem_iff.1 (by simp))

set_option maxHeartbeats 1600000 in
theorem l5Sides_any (a b c : Int) (w : World) : Calls Tryz.prog 82 #[.int .i64 a, .int .i64 b, .int .i64 c] w fun e w' =>
    ∃ g, e = .returned (.slice (some ⟨g, 0, none⟩) 3 3) ∧ Blk w' g (ci (srt3 a b c)) ∧ w.heap.size ≤ g ∧ g < w'.heap.size ∧ Below w.heap.size w w' := by
  have hs := sortedKeys [a, b, c]
  have hr := (sortP_perm [a, b, c] false (List.range 3))
  obtain ⟨p, q, r, hpqr, hp, hq, hr3⟩ := three_of hr
  have hsrt : [key [a, b, c] p, key [a, b, c] q, key [a, b, c] r] = srt3 a b c := by
    have h3 : [a, b, c].length = 3 := rfl
    rw [h3, hpqr] at hs
    exact srt3_of hs.1 hs.2
  have HS := hide hsrt
  have HP := hide hpqr
  clear hs hr hsrt hpqr
  go_enter Tryz.func82, Tryz.ntmps82
  go_wp2_with fail
  have hB0 : Blk (w.alloc (.cells #[.int .i64 a, .int .i64 b, .int .i64 c] 3)) w.heap.size (ci [a, b, c]) := Blk.allocAt (ci [a, b, c]) rfl
  have H0 : Hid (Below w.heap.size w (w.alloc (.cells #[.int .i64 a, .int .i64 b, .int .i64 c] 3))) := (Below.refl _ _).alloc (Nat.le_refl _) _
  have z0 : w.heap.size < (w.alloc (.cells #[.int .i64 a, .int .i64 b, .int .i64 c] 3)).heap.size := by simp
  have hR : Rd (w.alloc (.cells #[.int .i64 a, .int .i64 b, .int .i64 c] 3)) (some ⟨w.heap.size, 0, none⟩) 3 [a, b, c] := ⟨rfl, fun i hi => ⟨w.heap.size, 0, rfl, by rw [Nat.zero_add]; exact (hB0.int i hi).1⟩⟩
  generalize w.alloc (.cells #[.int .i64 a, .int .i64 b, .int .i64 c] 3) = W at *
  refine (specSortUp_any _ 3 3 [a, b, c] _ hR (by omega)).mono ?_
  rintro e w1 ⟨g, cc, rfl, ho, hb⟩
  rw [unhide HP] at ho
  have s0 := ho.cellAt 0 (by omega)
  have s1 := ho.cellAt 1 (by omega)
  have s2 := ho.cellAt 2 (by omega)
  simp only [cellsN, List.map_cons, List.map_nil, List.getElem?_cons_zero, List.getElem?_cons_succ] at s0 s1 s2
  have hB1 := Blk.below hb z0 hB0
  have k0 : w1.cell? ⟨w.heap.size, p, none⟩ = some (.int .i64 (key [a, b, c] p)) := (hB1.int p hp).1
  have k1 : w1.cell? ⟨w.heap.size, q, none⟩ = some (.int .i64 (key [a, b, c] q)) := (hB1.int q hq).1
  have k2 : w1.cell? ⟨w.heap.size, r, none⟩ = some (.int .i64 (key [a, b, c] r)) := (hB1.int r hr3).1
  have H1 := hide ((unhide H0).trans (hb.mono (unhide H0).size))
  have z1 : w.heap.size ≤ w1.heap.size := (unhide H1).size
  clear hR hB0 ho hB1 H0 hb z0
  generalize hkp : key [a, b, c] p = kp at *
  generalize hkq : key [a, b, c] q = kq at *
  generalize hkr : key [a, b, c] r = kr at *
  clear hkp hkq hkr
  have ip : (p : Int) < 3 := by omega
  have iq : (q : Int) < 3 := by omega
  have ir : (r : Int) < 3 := by omega
  have KS : Hid (∀ w', Below w1.heap.size w1 w' → (w'.cell? ⟨g, 0, none⟩ = some (.int .i64 (p : Int)) ∧ w'.cell? ⟨g, 1, none⟩ = some (.int .i64 (q : Int)) ∧ w'.cell? ⟨g, 2, none⟩ = some (.int .i64 (r : Int)) ∧ w'.cell? ⟨w.heap.size, p, none⟩ = some (.int .i64 kp) ∧ w'.cell? ⟨w.heap.size, q, none⟩ = some (.int .i64 kq) ∧ w'.cell? ⟨w.heap.size, r, none⟩ = some (.int .i64 kr))) := by
    intro w' hb
    exact ⟨(hb.cell (World.block_lt_of_cell? w1 _ s0)).trans s0, (hb.cell (World.block_lt_of_cell? w1 _ s1)).trans s1, (hb.cell (World.block_lt_of_cell? w1 _ s2)).trans s2, (hb.cell (World.block_lt_of_cell? w1 _ k0)).trans k0, (hb.cell (World.block_lt_of_cell? w1 _ k1)).trans k1, (hb.cell (World.block_lt_of_cell? w1 _ k2)).trans k2⟩
  go_wp2
  go_region_held3 (fun w' => w'.cell? ⟨g, 0, none⟩ = some (.int .i64 (p : Int)) ∧ w'.cell? ⟨g, 1, none⟩ = some (.int .i64 (q : Int)) ∧ w'.cell? ⟨g, 2, none⟩ = some (.int .i64 (r : Int)) ∧ w'.cell? ⟨w.heap.size, p, none⟩ = some (.int .i64 kp) ∧ w'.cell? ⟨w.heap.size, q, none⟩ = some (.int .i64 kq) ∧ w'.cell? ⟨w.heap.size, r, none⟩ = some (.int .i64 kr)) (first | exact (unhide KS) _ (Below.refl _ _).drew | exact (unhide KS) _ (bw_alloc (Below.refl _ _) _).drew | exact (unhide KS) _ (bw_alloc (Below.refl _ _).drew _)) (fail)
  go_wp2
  go_ret
  refine ⟨_, rfl, ?_, z1, by simp, ?_⟩
  · rw [← unhide HS]
    exact Blk.allocAt (ci [kp, kq, kr]) rfl
  · exact ((unhide H1).alloc z1 _).drew

theorem fits_eq (x : ItemV) (t : TypeV) (a b c d : Bool) (h1 : decide (lo3 x.wd x.ht x.dp ≤ lo3 t.wd t.ht t.dp) = a) (h2 : decide (mid3 x.wd x.ht x.dp ≤ mid3 t.wd t.ht t.dp) = b) (h3 : decide (hi3 x.wd x.ht x.dp ≤ hi3 t.wd t.ht t.dp) = c) (h4 : decide (x.gram ≤ t.gram) = d) : fitsB x t = (a && b && c && d) := by
  rw [fitsB, sidesLe, h1, h2, h3, h4]
set_option maxHeartbeats 1600000 in
theorem specFits_any (x : ItemV) (t : TypeV) (w : World) : Calls Tryz.prog 49 #[.agg #[.int .i64 x.id, .int .i64 x.wd, .int .i64 x.ht, .int .i64 x.dp, .int .i64 x.gram, .int .i64 x.cls, .int .i64 x.cnt], .agg #[.int .i64 t.id, .int .i64 t.wd, .int .i64 t.ht, .int .i64 t.dp, .int .i64 t.tare, .int .i64 t.gram, .int .i64 t.cost]] w fun e w' => e = .returned (.bool (fitsB x t)) ∧ Below w.heap.size w w' := by
  go_enter Tryz.func49, Tryz.ntmps49
  go_wp2_with fail
  have HX : Blk ((w.alloc (.cells #[.int .i64 x.id, .int .i64 x.wd, .int .i64 x.ht, .int .i64 x.dp, .int .i64 x.gram, .int .i64 x.cls, .int .i64 x.cnt] 43)).alloc (.cells #[.int .i64 t.id, .int .i64 t.wd, .int .i64 t.ht, .int .i64 t.dp, .int .i64 t.tare, .int .i64 t.gram, .int .i64 t.cost] 69)) w.heap.size [.int .i64 x.id, .int .i64 x.wd, .int .i64 x.ht, .int .i64 x.dp, .int .i64 x.gram, .int .i64 x.cls, .int .i64 x.cnt] := (Blk.allocAt [.int .i64 x.id, .int .i64 x.wd, .int .i64 x.ht, .int .i64 x.dp, .int .i64 x.gram, .int .i64 x.cls, .int .i64 x.cnt] rfl).allocOld (by simp) _
  have HT : Blk ((w.alloc (.cells #[.int .i64 x.id, .int .i64 x.wd, .int .i64 x.ht, .int .i64 x.dp, .int .i64 x.gram, .int .i64 x.cls, .int .i64 x.cnt] 43)).alloc (.cells #[.int .i64 t.id, .int .i64 t.wd, .int .i64 t.ht, .int .i64 t.dp, .int .i64 t.tare, .int .i64 t.gram, .int .i64 t.cost] 69)) (w.heap.size + 1) [.int .i64 t.id, .int .i64 t.wd, .int .i64 t.ht, .int .i64 t.dp, .int .i64 t.tare, .int .i64 t.gram, .int .i64 t.cost] := Blk.allocAt [.int .i64 t.id, .int .i64 t.wd, .int .i64 t.ht, .int .i64 t.dp, .int .i64 t.tare, .int .i64 t.gram, .int .i64 t.cost] (by simp)
  have HB : Hid (Below w.heap.size w ((w.alloc (.cells #[.int .i64 x.id, .int .i64 x.wd, .int .i64 x.ht, .int .i64 x.dp, .int .i64 x.gram, .int .i64 x.cls, .int .i64 x.cnt] 43)).alloc (.cells #[.int .i64 t.id, .int .i64 t.wd, .int .i64 t.ht, .int .i64 t.dp, .int .i64 t.tare, .int .i64 t.gram, .int .i64 t.cost] 69))) := ((Below.refl w.heap.size w).alloc (Nat.le_refl _) _).alloc (by simp) _
  have hz : w.heap.size + 1 < ((w.alloc (.cells #[.int .i64 x.id, .int .i64 x.wd, .int .i64 x.ht, .int .i64 x.dp, .int .i64 x.gram, .int .i64 x.cls, .int .i64 x.cnt] 43)).alloc (.cells #[.int .i64 t.id, .int .i64 t.wd, .int .i64 t.ht, .int .i64 t.dp, .int .i64 t.tare, .int .i64 t.gram, .int .i64 t.cost] 69)).heap.size := by simp
  generalize (w.alloc (.cells #[.int .i64 x.id, .int .i64 x.wd, .int .i64 x.ht, .int .i64 x.dp, .int .i64 x.gram, .int .i64 x.cls, .int .i64 x.cnt] 43)).alloc (.cells #[.int .i64 t.id, .int .i64 t.wd, .int .i64 t.ht, .int .i64 t.dp, .int .i64 t.tare, .int .i64 t.gram, .int .i64 t.cost] 69) = W at *
  refine (l5Sides_any _ _ _ _).mono ?_
  rintro e w1 ⟨g, rfl, hg, hgB, hgz, hb1⟩
  have HX1 := Blk.below hb1 (by omega) HX
  have HT1 := Blk.below hb1 hz HT
  have H1 := hide ((unhide HB).trans (hb1.mono (unhide HB).size))
  have z1 : w.heap.size + 1 < w1.heap.size := Nat.lt_of_lt_of_le hz hb1.size
  have t1 := (HT1 1 (by simp)).1
  have t2 := (HT1 2 (by simp)).1
  have t3 := (HT1 3 (by simp)).1
  simp only [List.getElem?_cons_zero, List.getElem?_cons_succ] at t1 t2 t3
  have HHX := hide HX1
  have HHT := hide HT1
  have HHG := hide hg
  clear hb1 HX HT HX1 HT1 HB hg hz
  go_wp2_with fail
  refine (l5Sides_any _ _ _ _).mono ?_
  rintro e w2 ⟨h, rfl, hh, hhB, hhz, hb2⟩
  have HX2 := Blk.below hb2 (by omega) (unhide HHX)
  have HT2 := Blk.below hb2 z1 (unhide HHT)
  have hg := Blk.below hb2 hgz (unhide HHG)
  have H2 := hide ((unhide H1).trans (hb2.mono (unhide H1).size))
  have x4 := (HX2 4 (by simp)).1
  have t5 := (HT2 5 (by simp)).1
  have a0 := (hg 0 (by simp [ci, srt3])).1
  have a1 := (hg 1 (by simp [ci, srt3])).1
  have a2 := (hg 2 (by simp [ci, srt3])).1
  have b0 := (hh 0 (by simp [ci, srt3])).1
  have b1 := (hh 1 (by simp [ci, srt3])).1
  have b2 := (hh 2 (by simp [ci, srt3])).1
  simp only [ci, srt3, List.map_cons, List.map_nil, List.getElem?_cons_zero, List.getElem?_cons_succ] at a0 a1 a2 b0 b1 b2 x4 t5
  clear hb2 HHX HHT HHG HX2 HT2 hg hh t1 t2 t3 H1
  have HF := hide (fits_eq x t)
  generalize lo3 x.wd x.ht x.dp = p0 at *
  generalize mid3 x.wd x.ht x.dp = p1 at *
  generalize hi3 x.wd x.ht x.dp = p2 at *
  generalize lo3 t.wd t.ht t.dp = q0 at *
  generalize mid3 t.wd t.ht t.dp = q1 at *
  generalize hi3 t.wd t.ht t.dp = q2 at *
  generalize x.gram = p3 at *
  generalize t.gram = q3 at *
  cases d0 : decide (p0 ≤ q0) <;> cases d1 : decide (p1 ≤ q1) <;> cases d2 : decide (p2 ≤ q2)
  all_goals
    have e0 := (unhide HF) _ _ _ _ d0 d1 d2 rfl
    have HE := hide e0
    clear e0
    go_wp2
    go_quiet (fail)
    go_wp2
    go_ret
    refine ⟨ret_boolF ?_, below_drewN (unhide H2) _⟩
    rw [unhide HE]
    simp
end Go.Proofs.YtlakbnpinennnaaGreatDoor
