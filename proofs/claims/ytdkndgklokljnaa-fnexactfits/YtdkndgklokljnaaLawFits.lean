/- The law of Fits, walked. -/
import Derived.Test.YtdkndgklokljnaaFitsImpl
import Derived.Test.YtdkndgklokljnaaFitsSpec
import Derived.Test.YtdkndgklokljnaaTo
import Derived.Deep.DeepMust
namespace Go.Proofs.Ytdkndgklokljnaa
open Go.RowKit
set_option linter.unusedVariables false
set_option maxHeartbeats 4000000 in
theorem law_fits (x : ItemV) (t : TypeV) (w : World) : Calls Try.prog 4 #[.agg #[.int .i64 x.id, .int .i64 x.wd, .int .i64 x.ht, .int .i64 x.dp, .int .i64 x.gram, .int .i64 x.cls, .int .i64 x.cnt], .agg #[.int .i64 t.id, .int .i64 t.wd, .int .i64 t.ht, .int .i64 t.dp, .int .i64 t.tare, .int .i64 t.gram, .int .i64 t.cost]] w fun e w' => e = .returned (.bool true) ∧ Below w.heap.size w w' := by
  have hne : (fitsB x t != fitsB x t) = false := by simp
  go_enter Try.func4, Try.ntmps4
  go_wp2
  have HX : Blk ((w.alloc (.cells #[.int .i64 x.id, .int .i64 x.wd, .int .i64 x.ht, .int .i64 x.dp, .int .i64 x.gram, .int .i64 x.cls, .int .i64 x.cnt] 34)).alloc (.cells #[.int .i64 t.id, .int .i64 t.wd, .int .i64 t.ht, .int .i64 t.dp, .int .i64 t.tare, .int .i64 t.gram, .int .i64 t.cost] 35)) w.heap.size [.int .i64 x.id, .int .i64 x.wd, .int .i64 x.ht, .int .i64 x.dp, .int .i64 x.gram, .int .i64 x.cls, .int .i64 x.cnt] := (Blk.allocAt [.int .i64 x.id, .int .i64 x.wd, .int .i64 x.ht, .int .i64 x.dp, .int .i64 x.gram, .int .i64 x.cls, .int .i64 x.cnt] rfl).allocOld (by simp) _
  have HT : Blk ((w.alloc (.cells #[.int .i64 x.id, .int .i64 x.wd, .int .i64 x.ht, .int .i64 x.dp, .int .i64 x.gram, .int .i64 x.cls, .int .i64 x.cnt] 34)).alloc (.cells #[.int .i64 t.id, .int .i64 t.wd, .int .i64 t.ht, .int .i64 t.dp, .int .i64 t.tare, .int .i64 t.gram, .int .i64 t.cost] 35)) (w.heap.size + 1) [.int .i64 t.id, .int .i64 t.wd, .int .i64 t.ht, .int .i64 t.dp, .int .i64 t.tare, .int .i64 t.gram, .int .i64 t.cost] := Blk.allocAt [.int .i64 t.id, .int .i64 t.wd, .int .i64 t.ht, .int .i64 t.dp, .int .i64 t.tare, .int .i64 t.gram, .int .i64 t.cost] (by simp)
  have HB : Hid (Below w.heap.size w ((w.alloc (.cells #[.int .i64 x.id, .int .i64 x.wd, .int .i64 x.ht, .int .i64 x.dp, .int .i64 x.gram, .int .i64 x.cls, .int .i64 x.cnt] 34)).alloc (.cells #[.int .i64 t.id, .int .i64 t.wd, .int .i64 t.ht, .int .i64 t.dp, .int .i64 t.tare, .int .i64 t.gram, .int .i64 t.cost] 35))) := ((Below.refl w.heap.size w).alloc (Nat.le_refl _) _).alloc (by simp) _
  have hz : ((w.alloc (.cells #[.int .i64 x.id, .int .i64 x.wd, .int .i64 x.ht, .int .i64 x.dp, .int .i64 x.gram, .int .i64 x.cls, .int .i64 x.cnt] 34)).alloc (.cells #[.int .i64 t.id, .int .i64 t.wd, .int .i64 t.ht, .int .i64 t.dp, .int .i64 t.tare, .int .i64 t.gram, .int .i64 t.cost] 35)).heap.size = w.heap.size + 2 := by simp
  generalize ((w.alloc (.cells #[.int .i64 x.id, .int .i64 x.wd, .int .i64 x.ht, .int .i64 x.dp, .int .i64 x.gram, .int .i64 x.cls, .int .i64 x.cnt] 34)).alloc (.cells #[.int .i64 t.id, .int .i64 t.wd, .int .i64 t.ht, .int .i64 t.dp, .int .i64 t.tare, .int .i64 t.gram, .int .i64 t.cost] 35)) = W at *
  obtain ⟨G, hG⟩ : ∃ G, G = w.heap.size := ⟨_, rfl⟩
  rw [← hG] at HX HT hz ⊢
  have lt0 : G < W.heap.size := by omega
  have lt1 : G + 1 < W.heap.size := by omega
  have KS : Hid (∀ w', Below W.heap.size W w' → w'.cell? ⟨G, 0, none⟩ = some (.int .i64 x.id) ∧ w'.cell? ⟨G, 1, none⟩ = some (.int .i64 x.wd) ∧ w'.cell? ⟨G, 2, none⟩ = some (.int .i64 x.ht) ∧ w'.cell? ⟨G, 3, none⟩ = some (.int .i64 x.dp) ∧ w'.cell? ⟨G, 4, none⟩ = some (.int .i64 x.gram) ∧ w'.cell? ⟨G, 5, none⟩ = some (.int .i64 x.cls) ∧ w'.cell? ⟨G, 6, none⟩ = some (.int .i64 x.cnt) ∧ w'.cell? ⟨G + 1, 0, none⟩ = some (.int .i64 t.id) ∧ w'.cell? ⟨G + 1, 1, none⟩ = some (.int .i64 t.wd) ∧ w'.cell? ⟨G + 1, 2, none⟩ = some (.int .i64 t.ht) ∧ w'.cell? ⟨G + 1, 3, none⟩ = some (.int .i64 t.dp) ∧ w'.cell? ⟨G + 1, 4, none⟩ = some (.int .i64 t.tare) ∧ w'.cell? ⟨G + 1, 5, none⟩ = some (.int .i64 t.gram) ∧ w'.cell? ⟨G + 1, 6, none⟩ = some (.int .i64 t.cost)) := by
    intro w' hb
    exact ⟨(hb.cell (p := ⟨G, 0, none⟩) lt0).trans (HX 0 (by simp)).1, (hb.cell (p := ⟨G, 1, none⟩) lt0).trans (HX 1 (by simp)).1, (hb.cell (p := ⟨G, 2, none⟩) lt0).trans (HX 2 (by simp)).1, (hb.cell (p := ⟨G, 3, none⟩) lt0).trans (HX 3 (by simp)).1, (hb.cell (p := ⟨G, 4, none⟩) lt0).trans (HX 4 (by simp)).1, (hb.cell (p := ⟨G, 5, none⟩) lt0).trans (HX 5 (by simp)).1, (hb.cell (p := ⟨G, 6, none⟩) lt0).trans (HX 6 (by simp)).1, (hb.cell (p := ⟨G + 1, 0, none⟩) lt1).trans (HT 0 (by simp)).1, (hb.cell (p := ⟨G + 1, 1, none⟩) lt1).trans (HT 1 (by simp)).1, (hb.cell (p := ⟨G + 1, 2, none⟩) lt1).trans (HT 2 (by simp)).1, (hb.cell (p := ⟨G + 1, 3, none⟩) lt1).trans (HT 3 (by simp)).1, (hb.cell (p := ⟨G + 1, 4, none⟩) lt1).trans (HT 4 (by simp)).1, (hb.cell (p := ⟨G + 1, 5, none⟩) lt1).trans (HT 5 (by simp)).1, (hb.cell (p := ⟨G + 1, 6, none⟩) lt1).trans (HT 6 (by simp)).1⟩
  have HG := hide hG
  clear hG HX HT hz
  have B1 : Hid (Below W.heap.size W W) := Below.refl _ _
  go_region_held3 (fun w' => w'.cell? ⟨G, 0, none⟩ = some (.int .i64 x.id) ∧ w'.cell? ⟨G, 1, none⟩ = some (.int .i64 x.wd) ∧ w'.cell? ⟨G, 2, none⟩ = some (.int .i64 x.ht) ∧ w'.cell? ⟨G, 3, none⟩ = some (.int .i64 x.dp) ∧ w'.cell? ⟨G, 4, none⟩ = some (.int .i64 x.gram) ∧ w'.cell? ⟨G, 5, none⟩ = some (.int .i64 x.cls) ∧ w'.cell? ⟨G, 6, none⟩ = some (.int .i64 x.cnt) ∧ w'.cell? ⟨G + 1, 0, none⟩ = some (.int .i64 t.id) ∧ w'.cell? ⟨G + 1, 1, none⟩ = some (.int .i64 t.wd) ∧ w'.cell? ⟨G + 1, 2, none⟩ = some (.int .i64 t.ht) ∧ w'.cell? ⟨G + 1, 3, none⟩ = some (.int .i64 t.dp) ∧ w'.cell? ⟨G + 1, 4, none⟩ = some (.int .i64 t.tare) ∧ w'.cell? ⟨G + 1, 5, none⟩ = some (.int .i64 t.gram) ∧ w'.cell? ⟨G + 1, 6, none⟩ = some (.int .i64 t.cost)) (exact (unhide KS) _ (by first | with_reducible exact unhide B1 | exact (unhide B1).drew))
    (first
      | (go_at_call 13; go_must (refine (toItem_any _ _ _ _ _ _ _ _).mono ?_; rintro e u1 ⟨rfl, hb⟩; have B1 := hide (bw_call (W := W) (by first | with_reducible exact unhide B1 | exact (unhide B1).drew) hb); clear hb))
      | (go_at_call 14; go_must (refine (toType_any _ _ _ _ _ _ _ _).mono ?_; rintro e u2 ⟨rfl, hb⟩; have B1 := hide (bw_call (W := W) (by first | with_reducible exact unhide B1 | exact (unhide B1).drew) hb); clear hb))
      | (go_at_call 9; go_must (refine (specFits_any x t _).mono ?_; rintro e u3 ⟨rfl, hb⟩; have B1 := hide (bw_call (W := W) (by first | with_reducible exact unhide B1 | exact (unhide B1).drew) hb); clear hb)))
  go_wp2
  go_region_held3 (fun w' => w'.cell? ⟨G, 0, none⟩ = some (.int .i64 x.id) ∧ w'.cell? ⟨G, 1, none⟩ = some (.int .i64 x.wd) ∧ w'.cell? ⟨G, 2, none⟩ = some (.int .i64 x.ht) ∧ w'.cell? ⟨G, 3, none⟩ = some (.int .i64 x.dp) ∧ w'.cell? ⟨G, 4, none⟩ = some (.int .i64 x.gram) ∧ w'.cell? ⟨G, 5, none⟩ = some (.int .i64 x.cls) ∧ w'.cell? ⟨G, 6, none⟩ = some (.int .i64 x.cnt) ∧ w'.cell? ⟨G + 1, 0, none⟩ = some (.int .i64 t.id) ∧ w'.cell? ⟨G + 1, 1, none⟩ = some (.int .i64 t.wd) ∧ w'.cell? ⟨G + 1, 2, none⟩ = some (.int .i64 t.ht) ∧ w'.cell? ⟨G + 1, 3, none⟩ = some (.int .i64 t.dp) ∧ w'.cell? ⟨G + 1, 4, none⟩ = some (.int .i64 t.tare) ∧ w'.cell? ⟨G + 1, 5, none⟩ = some (.int .i64 t.gram) ∧ w'.cell? ⟨G + 1, 6, none⟩ = some (.int .i64 t.cost)) (exact (unhide KS) _ (by first | with_reducible exact unhide B1 | exact (unhide B1).drew))
    (first
      | (go_at_call 13; go_must (refine (toItem_any _ _ _ _ _ _ _ _).mono ?_; rintro e u1 ⟨rfl, hb⟩; have B1 := hide (bw_call (W := W) (by first | with_reducible exact unhide B1 | exact (unhide B1).drew) hb); clear hb))
      | (go_at_call 14; go_must (refine (toType_any _ _ _ _ _ _ _ _).mono ?_; rintro e u2 ⟨rfl, hb⟩; have B1 := hide (bw_call (W := W) (by first | with_reducible exact unhide B1 | exact (unhide B1).drew) hb); clear hb))
      | (go_at_call 8; go_must (refine (fits_any x t _).mono ?_; rintro e u3 ⟨rfl, hb⟩; have B1 := hide (bw_call (W := W) (by first | with_reducible exact unhide B1 | exact (unhide B1).drew) hb); clear hb)))
  go_wp2
  go_ret
  exact ⟨rfl, (unhide HB).trans ((unhide B1).mono (unhide HB).size)⟩
end Go.Proofs.Ytdkndgklokljnaa
