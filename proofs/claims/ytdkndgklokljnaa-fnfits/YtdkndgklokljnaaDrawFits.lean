/- A thing and a carton, drawn. -/
import Derived.Test.YtdkndgklokljnaaDraw2
import Derived.Test.YtdkndgklokljnaaBw
import Derived.Test.YtdkndgklokljnaaMaster
import Derived.Test.YtdkndgklokljnaaHeldTo
import Derived.Deep.DeepCutAuto
import Derived.Deep.RegionHeld3
import Derived.Deep.DeepMust
namespace Go.Proofs.Ytdkndgklokljnaa
open Go.RowKit
set_option linter.unusedVariables false
set_option linter.unusedSimpArgs false

theorem rdr_grown {α : Type} [Inhabited α] {cells : α → List Value} {k : Nat} (hk : 0 < k) (hlen : ∀ q, (cells q).length = k) {w w' : World} {a : Option Addr} {n g : Nat} {xs : List α} (h : RdR cells k w a n xs) (hg : w.grownBy w' (some g)) (hne : ∀ x, a = some x → x.block ≠ g) : RdR cells k w' a n xs :=
  ⟨h.1, fun i hi => by
    obtain ⟨b, off, ha, hc⟩ := h.2 i hi
    refine ⟨b, off, ha, fun j hj => ?_⟩
    have h0 := hc 0 hk
    have hl := hlen (xs.getD i default)
    have hlt : b < w.heap.size := by
      rw [List.getElem?_eq_getElem (by omega)] at h0
      exact World.block_lt_of_cell? w _ h0
    have hbg : b ≠ g := hne _ ha
    exact (World.cell?_of_block (w := w) (hg.block b hlt (by intro e; cases e; exact hbg rfl))).trans (hc j hj)⟩
theorem RdReq.grown {w w' : World} {r : ReqV} {h : ReqH} {g : Nat} (hr : RdReq w r h) (hg : w.grownBy w' (some g)) (hf : Far h g) : RdReq w' r h :=
  ⟨rdr_grown (by omega) PairV.len hr.1 hg hf.1, rdr_grown (by omega) TypeV.len hr.2.1 hg hf.2.1, rdr_grown (by omega) ItemV.len hr.2.2 hg hf.2.2⟩
theorem heap_fill7 {w : World} {g b : Nat} {v0 v1 v2 v3 v4 v5 v6 : Value} (h : b ≠ g) : (((((((w.setCell ⟨g, 0, none⟩ v0).setCell ⟨g, 1, none⟩ v1).setCell ⟨g, 2, none⟩ v2).setCell ⟨g, 3, none⟩ v3).setCell ⟨g, 4, none⟩ v4).setCell ⟨g, 5, none⟩ v5).setCell ⟨g, 6, none⟩ v6).heap[b]? = w.heap[b]? := by
  rw [Below.heap_setCell _ _ _ b (by simpa using h), Below.heap_setCell _ _ _ b (by simpa using h), Below.heap_setCell _ _ _ b (by simpa using h), Below.heap_setCell _ _ _ b (by simpa using h), Below.heap_setCell _ _ _ b (by simpa using h), Below.heap_setCell _ _ _ b (by simpa using h), Below.heap_setCell _ _ _ b (by simpa using h)]
theorem len_ne {n : Nat} (h : ¬ n = 0) : ((n : Int) == 0) = false := by rw [beq_eq_false_iff_ne]; omega
theorem len_eq {n : Nat} (h : n = 0) : ((n : Int) == 0) = true := by subst h; rfl
theorem far_of {B g : Nat} {h : ReqH} (hf : From B h) (hg : g < B) : Far h g :=
  ⟨fun x hx => by have := hf.fp x hx; omega, fun x hx => by have := hf.ft x hx; omega, fun x hx => by have := hf.fi x hx; omega⟩

set_option maxRecDepth 100000 in
set_option maxHeartbeats 1000000 in
theorem drawFits_any (a : Option Addr) (n c : Nat) (zs : List Int) (w : World) (hr : RdB w a n zs) (hn : n ≤ 1048576) :
    Calls Try.prog 7 #[.slice a n c] w fun e w' => ∃ (x : ItemV) (t : TypeV), e = .returned (.tuple #[.agg #[.int .i64 x.id, .int .i64 x.wd, .int .i64 x.ht, .int .i64 x.dp, .int .i64 x.gram, .int .i64 x.cls, .int .i64 x.cnt], .agg #[.int .i64 t.id, .int .i64 t.wd, .int .i64 t.ht, .int .i64 t.dp, .int .i64 t.tare, .int .i64 t.gram, .int .i64 t.cost]]) ∧ Below w.heap.size w w' := by
  have HR := hide hr
  clear hr
  go_enter Try.func7, Try.ntmps7
  go_wp2_with fail
  have hbw : Below w.heap.size w ((w.alloc (.cells #[.int .i64 0, .int .i64 0, .int .i64 0, .int .i64 0, .int .i64 0, .int .i64 0, .int .i64 0] 25)).alloc (.cells #[.int .i64 0, .int .i64 0, .int .i64 0, .int .i64 0, .int .i64 0, .int .i64 0, .int .i64 0] 27)) := ((Below.refl w.heap.size w).alloc (Nat.le_refl _) _).alloc (by simp) _
  have K0 : Blk ((w.alloc (.cells #[.int .i64 0, .int .i64 0, .int .i64 0, .int .i64 0, .int .i64 0, .int .i64 0, .int .i64 0] 25)).alloc (.cells #[.int .i64 0, .int .i64 0, .int .i64 0, .int .i64 0, .int .i64 0, .int .i64 0, .int .i64 0] 27)) w.heap.size [.int .i64 0, .int .i64 0, .int .i64 0, .int .i64 0, .int .i64 0, .int .i64 0, .int .i64 0] := (Blk.allocAt [.int .i64 0, .int .i64 0, .int .i64 0, .int .i64 0, .int .i64 0, .int .i64 0, .int .i64 0] rfl).allocOld (by simp) _
  have K1 : Blk ((w.alloc (.cells #[.int .i64 0, .int .i64 0, .int .i64 0, .int .i64 0, .int .i64 0, .int .i64 0, .int .i64 0] 25)).alloc (.cells #[.int .i64 0, .int .i64 0, .int .i64 0, .int .i64 0, .int .i64 0, .int .i64 0, .int .i64 0] 27)) (w.heap.size + 1) [.int .i64 0, .int .i64 0, .int .i64 0, .int .i64 0, .int .i64 0, .int .i64 0, .int .i64 0] := Blk.allocAt [.int .i64 0, .int .i64 0, .int .i64 0, .int .i64 0, .int .i64 0, .int .i64 0, .int .i64 0] (by simp)
  have hz : ((w.alloc (.cells #[.int .i64 0, .int .i64 0, .int .i64 0, .int .i64 0, .int .i64 0, .int .i64 0, .int .i64 0] 25)).alloc (.cells #[.int .i64 0, .int .i64 0, .int .i64 0, .int .i64 0, .int .i64 0, .int .i64 0, .int .i64 0] 27)).heap.size = w.heap.size + 2 := by simp
  generalize (w.alloc (.cells #[.int .i64 0, .int .i64 0, .int .i64 0, .int .i64 0, .int .i64 0, .int .i64 0, .int .i64 0] 25)).alloc (.cells #[.int .i64 0, .int .i64 0, .int .i64 0, .int .i64 0, .int .i64 0, .int .i64 0, .int .i64 0] 27) = w0 at *
  refine (l1New_any a n c zs _ (by exact (unhide HR).mono hbw) hn ?_).mono ?_
  · intro h0 x hx
    obtain ⟨b, off, ha, hc, _⟩ := (unhide HR).2 0 h0
    rw [hx] at ha
    cases ha
    have := World.block_lt_of_cell? w _ hc
    simp at this ⊢
    omega
  rintro e w1 ⟨rfl, hc1, hb1⟩
  obtain ⟨G, hG⟩ : ∃ G, G = w.heap.size := ⟨_, rfl⟩
  rw [← hG] at K0 K1 hz ⊢
  rw [hz] at hc1
  have k1_0 := Blk.below hb1 (by omega) K0
  have k1_1 := Blk.below hb1 (by omega) K1
  have z1 : G + 2 ≤ w1.heap.size := by have := hb1.size; omega
  have HB1 := hide (hbw.trans (hb1.mono hbw.size))
  have hkl : G + 2 < w1.heap.size := by obtain ⟨_, _, _, _, h3⟩ := hc1.cells; exact lt_of_block h3
  rw [hz]
  have HG := hide hG
  clear hb1 K0 K1 hbw hz hG
  go_wp2_with fail
  refine (l2Draw_any (G + 2) a n c zs w1 hc1).mono ?_
  rintro e w2 ⟨r, h, rfl, hl, hrd, hfr, hc2, hg2⟩
  have k2_0 := k1_0.grown hg2 (by omega) (by intro e; injection e with e; omega)
  have k2_1 := k1_1.grown hg2 (by omega) (by intro e; injection e with e; omega)
  have z2 := hg2.size
  have HB2 := hide ((unhide HB1).grown hg2 (by rw [← unhide HG]; omega) (by intro k hk; cases hk; rw [← unhide HG]; omega))
  have hfar := far_of hfr (show G + 2 < w1.heap.size + 1 by omega)
  have hlt1 : r.types.length ≤ 256 := by have := hl.lt; omega
  simp only [reqVal]
  obtain ⟨pa, ta, ia, pc, tc, ic⟩ := h
  have HL := hide hl
  clear hl hc1 hg2 k1_0 k1_1 HB1 hlt1
  dsimp only at *
  have RQ2 := hide hrd
  have BX : Blk (w2.alloc (.cells #[.int .i64 r.way, .int .i64 r.pal.wd, .int .i64 r.pal.dp, .int .i64 r.pal.ht, .int .i64 r.pal.gram, .int .i64 r.classes, .slice pa r.pairs.length pc, .slice ta r.types.length tc, .int .i64 r.master, .slice ia r.items.length ic] 54)) w2.heap.size [.int .i64 r.way, .int .i64 r.pal.wd, .int .i64 r.pal.dp, .int .i64 r.pal.ht, .int .i64 r.pal.gram, .int .i64 r.classes, .slice pa r.pairs.length pc, .slice ta r.types.length tc, .int .i64 r.master, .slice ia r.items.length ic] := Blk.allocAt [.int .i64 r.way, .int .i64 r.pal.wd, .int .i64 r.pal.dp, .int .i64 r.pal.ht, .int .i64 r.pal.gram, .int .i64 r.classes, .slice pa r.pairs.length pc, .slice ta r.types.length tc, .int .i64 r.master, .slice ia r.items.length ic] rfl
  have hb3 : Below w2.heap.size w2 (w2.alloc (.cells #[.int .i64 r.way, .int .i64 r.pal.wd, .int .i64 r.pal.dp, .int .i64 r.pal.ht, .int .i64 r.pal.gram, .int .i64 r.classes, .slice pa r.pairs.length pc, .slice ta r.types.length tc, .int .i64 r.master, .slice ia r.items.length ic] 54)) := (Below.refl _ _).alloc (Nat.le_refl _) _
  have k3_0 := Blk.below hb3 (by omega) k2_0
  have k3_1 := Blk.below hb3 (by omega) k2_1
  have RQ3 := hide ((unhide RQ2).mono hb3)
  have HC3 := hide (hc2.mono hb3)
  have HB3 := hide ((unhide HB2).trans (hb3.mono (unhide HB2).size))
  have z3 : w2.heap.size < (w2.alloc (.cells #[.int .i64 r.way, .int .i64 r.pal.wd, .int .i64 r.pal.dp, .int .i64 r.pal.ht, .int .i64 r.pal.gram, .int .i64 r.classes, .slice pa r.pairs.length pc, .slice ta r.types.length tc, .int .i64 r.master, .slice ia r.items.length ic] 54)).heap.size := by simp
  have hxk : w2.heap.size ≠ G + 2 := by omega
  have zg : G + 2 < w2.heap.size := by omega
  have hfar2 := hide hfar
  have HFR := hide hfr
  clear hfr
  clear hb3 hc2 k2_0 k2_1 RQ2 HB2 hrd hfar
  by_cases h0 : r.items.length = 0 ∨ r.types.length = 0
  · have hbb : ((r.items.length : Int) == 0) = true ∨ (((r.items.length : Int) == 0) = false ∧ ((r.types.length : Int) == 0) = true) := by
      by_cases e : r.items.length = 0
      · left; exact len_eq e
      · right; exact ⟨len_ne e, len_eq (by omega)⟩
    clear h0
    rcases hbb with hb1 | ⟨hb1, hb2⟩
    all_goals
      go_wp2_with fail
      generalize (w2.alloc (.cells #[.int .i64 r.way, .int .i64 r.pal.wd, .int .i64 r.pal.dp, .int .i64 r.pal.ht, .int .i64 r.pal.gram, .int .i64 r.classes, .slice pa r.pairs.length pc, .slice ta r.types.length tc, .int .i64 r.master, .slice ia r.items.length ic] 54)) = w3 at *
      refine (l1Below_any (G + 2) a n c zs 3 _ (unhide HC3) (by omega) (by omega)).mono ?_
      rintro e w4 ⟨y, rfl, y0, y1, hc4, hg4⟩
      have k4_0 := k3_0.grown hg4 (by omega) (by intro e; injection e with e; omega)
      have k4_1 := k3_1.grown hg4 (by omega) (by intro e; injection e with e; omega)
      have HB4 := hide ((unhide HB3).grown hg4 (by rw [← unhide HG]; omega) (by intro k hk; cases hk; rw [← unhide HG]; omega))
      have q0 : w4.cell? ⟨G, 0, none⟩ = some (.int .i64 0) := (k4_0 0 (by simp)).1
      have qf0 : w4.frozen? ⟨G, 0, none⟩ = false := (k4_0 0 (by simp)).2
      have q1 : w4.cell? ⟨G, 1, none⟩ = some (.int .i64 0) := (k4_0 1 (by simp)).1
      have qf1 : w4.frozen? ⟨G, 1, none⟩ = false := (k4_0 1 (by simp)).2
      have q2 : w4.cell? ⟨G, 2, none⟩ = some (.int .i64 0) := (k4_0 2 (by simp)).1
      have qf2 : w4.frozen? ⟨G, 2, none⟩ = false := (k4_0 2 (by simp)).2
      have q3 : w4.cell? ⟨G, 3, none⟩ = some (.int .i64 0) := (k4_0 3 (by simp)).1
      have qf3 : w4.frozen? ⟨G, 3, none⟩ = false := (k4_0 3 (by simp)).2
      have q4 : w4.cell? ⟨G, 4, none⟩ = some (.int .i64 0) := (k4_0 4 (by simp)).1
      have qf4 : w4.frozen? ⟨G, 4, none⟩ = false := (k4_0 4 (by simp)).2
      have q5 : w4.cell? ⟨G, 5, none⟩ = some (.int .i64 0) := (k4_0 5 (by simp)).1
      have qf5 : w4.frozen? ⟨G, 5, none⟩ = false := (k4_0 5 (by simp)).2
      have q6 : w4.cell? ⟨G, 6, none⟩ = some (.int .i64 0) := (k4_0 6 (by simp)).1
      have qf6 : w4.frozen? ⟨G, 6, none⟩ = false := (k4_0 6 (by simp)).2
      have p0 : w4.cell? ⟨G + 1, 0, none⟩ = some (.int .i64 0) := (k4_1 0 (by simp)).1
      have pf0 : w4.frozen? ⟨G + 1, 0, none⟩ = false := (k4_1 0 (by simp)).2
      have p1 : w4.cell? ⟨G + 1, 1, none⟩ = some (.int .i64 0) := (k4_1 1 (by simp)).1
      have pf1 : w4.frozen? ⟨G + 1, 1, none⟩ = false := (k4_1 1 (by simp)).2
      have p2 : w4.cell? ⟨G + 1, 2, none⟩ = some (.int .i64 0) := (k4_1 2 (by simp)).1
      have pf2 : w4.frozen? ⟨G + 1, 2, none⟩ = false := (k4_1 2 (by simp)).2
      have p3 : w4.cell? ⟨G + 1, 3, none⟩ = some (.int .i64 0) := (k4_1 3 (by simp)).1
      have pf3 : w4.frozen? ⟨G + 1, 3, none⟩ = false := (k4_1 3 (by simp)).2
      have p4 : w4.cell? ⟨G + 1, 4, none⟩ = some (.int .i64 0) := (k4_1 4 (by simp)).1
      have pf4 : w4.frozen? ⟨G + 1, 4, none⟩ = false := (k4_1 4 (by simp)).2
      have p5 : w4.cell? ⟨G + 1, 5, none⟩ = some (.int .i64 0) := (k4_1 5 (by simp)).1
      have pf5 : w4.frozen? ⟨G + 1, 5, none⟩ = false := (k4_1 5 (by simp)).2
      have p6 : w4.cell? ⟨G + 1, 6, none⟩ = some (.int .i64 0) := (k4_1 6 (by simp)).1
      have pf6 : w4.frozen? ⟨G + 1, 6, none⟩ = false := (k4_1 6 (by simp)).2
      clear hc4 hg4 k3_0 k3_1 k4_0 k4_1 BX
      go_wp2
      refine bodyPost_ret (v := .tuple #[.agg #[.int .i64 0, .int .i64 y, .int .i64 0, .int .i64 0, .int .i64 0, .int .i64 0, .int .i64 0], .agg #[.int .i64 0, .int .i64 1, .int .i64 1, .int .i64 1, .int .i64 0, .int .i64 0, .int .i64 0]]) (by simp [results, Try.results7, go_sem, q0, p0, q1, p1, q2, p2, q3, p3, q4, p4, q5, p5, q6, p6]) rfl ?_
      exact ⟨⟨0, y, 0, 0, 0, 0, 0⟩, ⟨0, 1, 1, 1, 0, 0, 0⟩, rfl, below_fill7 (below_fill7 (unhide HB4) (by rw [← unhide HG]; exact Nat.le_refl _)) (by rw [← unhide HG]; omega)⟩
  · have hb1 : ((r.items.length : Int) == 0) = false := len_ne (by omega)
    have hb2 : ((r.types.length : Int) == 0) = false := len_ne (by omega)
    have hi1 : 0 < r.items.length := by omega
    have ht1 : 0 < r.types.length := by omega
    have ht8 : r.types.length ≤ 256 := by have := (unhide HL).lt; omega
    go_wp2
    generalize (w2.alloc (.cells #[.int .i64 r.way, .int .i64 r.pal.wd, .int .i64 r.pal.dp, .int .i64 r.pal.ht, .int .i64 r.pal.gram, .int .i64 r.classes, .slice pa r.pairs.length pc, .slice ta r.types.length tc, .int .i64 r.master, .slice ia r.items.length ic] 54)) = w3 at *
    obtain ⟨bi, oi, hia, hci⟩ := (unhide RQ3).2.2.2 0 hi1
    obtain ⟨bt, ot, hta, hct⟩ := (unhide RQ3).2.1.2 0 ht1
    dsimp only at hia hta
    subst hia
    subst hta
    generalize r.items.getD 0 default = q at hci
    have HQ : Hid (∀ j, j < 7 → w3.cell? ⟨bi, oi + j, none⟩ = (ItemV.cells q)[j]?) := fun j hj => by have := hci j hj; rwa [Nat.zero_mul, Nat.add_zero] at this
    have hbg : G + 2 < bi := by have := (unhide HFR).fi _ rfl; dsimp only at this; omega
    have hbtg : G + 2 < bt := by have := (unhide HFR).ft _ rfl; dsimp only at this; omega
    have hblt : bi < w3.heap.size := by
      have := (unhide HQ) 0 (by omega)
      exact World.block_lt_of_cell? w3 _ this
    have KS : Hid (∀ u : World, (∀ b, b < w3.heap.size → G + 2 < b → u.heap[b]? = w3.heap[b]?) → (u.cell? ⟨w2.heap.size, 9, none⟩ = some (.slice (some ⟨bi, oi, none⟩) r.items.length ic) ∧ u.cell? ⟨w2.heap.size, 7, none⟩ = some (.slice (some ⟨bt, ot, none⟩) r.types.length tc) ∧ u.cell? ⟨bi, oi, none⟩ = some (.int .i64 q.id) ∧ u.cell? ⟨bi, oi + 1, none⟩ = some (.int .i64 q.wd) ∧ u.cell? ⟨bi, oi + 2, none⟩ = some (.int .i64 q.ht) ∧ u.cell? ⟨bi, oi + 3, none⟩ = some (.int .i64 q.dp) ∧ u.cell? ⟨bi, oi + 4, none⟩ = some (.int .i64 q.gram) ∧ u.cell? ⟨bi, oi + 5, none⟩ = some (.int .i64 q.cls) ∧ u.cell? ⟨bi, oi + 6, none⟩ = some (.int .i64 q.cnt))) := by
      intro u hu
      have lx : ∀ j, u.cell? ⟨w2.heap.size, j, none⟩ = w3.cell? ⟨w2.heap.size, j, none⟩ := fun j => World.cell?_of_block (w := w3) (hu _ z3 zg)
      have lb : ∀ j, u.cell? ⟨bi, j, none⟩ = w3.cell? ⟨bi, j, none⟩ := fun j => World.cell?_of_block (w := w3) (hu _ hblt hbg)
      exact ⟨(lx 9).trans (BX 9 (by simp)).1, (lx 7).trans (BX 7 (by simp)).1, (lb (oi)).trans ((unhide HQ) 0 (by omega)), (lb (oi + 1)).trans ((unhide HQ) 1 (by omega)), (lb (oi + 2)).trans ((unhide HQ) 2 (by omega)), (lb (oi + 3)).trans ((unhide HQ) 3 (by omega)), (lb (oi + 4)).trans ((unhide HQ) 4 (by omega)), (lb (oi + 5)).trans ((unhide HQ) 5 (by omega)), (lb (oi + 6)).trans ((unhide HQ) 6 (by omega))⟩
    clear hci hct BX HL
    have i0 : (0 : Int) < (r.items.length : Int) := by omega
    have i1 : (0 : Nat) < r.items.length := hi1
    refine wp_region_noPanic ?_
    refine wp_region_to (S := fun u => u.cell? ⟨w2.heap.size, 9, none⟩ = some (.slice (some ⟨bi, oi, none⟩) r.items.length ic) ∧ u.cell? ⟨w2.heap.size, 7, none⟩ = some (.slice (some ⟨bt, ot, none⟩) r.types.length tc) ∧ u.cell? ⟨bi, oi, none⟩ = some (.int .i64 q.id) ∧ u.cell? ⟨bi, oi + 1, none⟩ = some (.int .i64 q.wd) ∧ u.cell? ⟨bi, oi + 2, none⟩ = some (.int .i64 q.ht) ∧ u.cell? ⟨bi, oi + 3, none⟩ = some (.int .i64 q.dp) ∧ u.cell? ⟨bi, oi + 4, none⟩ = some (.int .i64 q.gram) ∧ u.cell? ⟨bi, oi + 5, none⟩ = some (.int .i64 q.cls) ∧ u.cell? ⟨bi, oi + 6, none⟩ = some (.int .i64 q.cnt)) (T := []) (by kernel_rfl) ((unhide KS) _ (fun b hb hgt => rfl)) (fun hHeld => ?_)
    have HC3b : Hid (Cur w3.drew (G + 2) a n c zs) := (unhide HC3).mono (Below.refl _ _).drew
    have HB3b : Hid (Below w.heap.size w w3.drew) := (unhide HB3).drew
    have RQ3b : Hid (RdReq w3.drew r ⟨pa, some ⟨bt, ot, none⟩, some ⟨bi, oi, none⟩, pc, tc, ic⟩) := (unhide RQ3).mono (Below.refl _ _).drew
    have k3b_0 : Blk w3.drew G [.int .i64 0, .int .i64 0, .int .i64 0, .int .i64 0, .int .i64 0, .int .i64 0, .int .i64 0] := k3_0
    have k3b_1 : Blk w3.drew (G + 1) [.int .i64 0, .int .i64 0, .int .i64 0, .int .i64 0, .int .i64 0, .int .i64 0, .int .i64 0] := k3_1
    clear HC3 HB3 RQ3 k3_0 k3_1
    have HC3 := HC3b
    have HB3 := HB3b
    have RQ3 := RQ3b
    have k3_0 := k3b_0
    have k3_1 := k3b_1
    clear HC3b HB3b RQ3b k3b_0 k3b_1
    have z3b : w2.heap.size < w3.drew.heap.size := z3
    have KS2 : Hid (∀ u : World, (∀ b, b < w3.drew.heap.size → G + 2 < b → u.heap[b]? = w3.drew.heap[b]?) → (u.cell? ⟨w2.heap.size, 9, none⟩ = some (.slice (some ⟨bi, oi, none⟩) r.items.length ic) ∧ u.cell? ⟨w2.heap.size, 7, none⟩ = some (.slice (some ⟨bt, ot, none⟩) r.types.length tc) ∧ u.cell? ⟨bi, oi, none⟩ = some (.int .i64 q.id) ∧ u.cell? ⟨bi, oi + 1, none⟩ = some (.int .i64 q.wd) ∧ u.cell? ⟨bi, oi + 2, none⟩ = some (.int .i64 q.ht) ∧ u.cell? ⟨bi, oi + 3, none⟩ = some (.int .i64 q.dp) ∧ u.cell? ⟨bi, oi + 4, none⟩ = some (.int .i64 q.gram) ∧ u.cell? ⟨bi, oi + 5, none⟩ = some (.int .i64 q.cls) ∧ u.cell? ⟨bi, oi + 6, none⟩ = some (.int .i64 q.cnt))) := KS
    clear KS
    have KS := KS2
    clear KS2 HQ hblt z3
    generalize w3.drew = u0 at *
    refine wpTo_take (i := 0) (v := ?_) rfl (by kernel_rfl) (by kernel_rfl) (by kernel_rfl) (by kernel_rfl) (by kernel_rfl) (fun _ _ _ h => h) (Or.inl ⟨by rfl, ?_⟩) (by assumption) ?_
    rotate_left
    · intro w hSw
      (try dsimp only at hSw)
      go_simp <;> with_reducible rfl
    try simp only [Act.put, List.getElem_toArray, List.getElem_cons_zero, List.getElem_cons_succ, List.setIfInBounds_toArray, List.set_cons_zero, List.set_cons_succ]
    refine wpTo_take (i := 1) (v := ?_) rfl (by kernel_rfl) (by kernel_rfl) (by kernel_rfl) (by kernel_rfl) (by kernel_rfl) (fun _ _ _ h => h) (Or.inl ⟨by rfl, ?_⟩) (by assumption) ?_
    rotate_left
    · intro w hSw
      (try dsimp only at hSw)
      go_simp <;> with_reducible rfl
    try simp only [Act.put, List.getElem_toArray, List.getElem_cons_zero, List.getElem_cons_succ, List.setIfInBounds_toArray, List.set_cons_zero, List.set_cons_succ]
    refine wpTo_take (i := 2) (v := ?_) rfl (by kernel_rfl) (by kernel_rfl) (by kernel_rfl) (by kernel_rfl) (by kernel_rfl) (fun _ _ _ h => h) (Or.inl ⟨by rfl, ?_⟩) (by assumption) ?_
    rotate_left
    · intro w hSw
      (try dsimp only at hSw)
      go_simp <;> with_reducible rfl
    try simp only [Act.put, List.getElem_toArray, List.getElem_cons_zero, List.getElem_cons_succ, List.setIfInBounds_toArray, List.set_cons_zero, List.set_cons_succ]
    refine wpTo_take (i := 3) (v := ?_) rfl (by kernel_rfl) (by kernel_rfl) (by kernel_rfl) (by kernel_rfl) (by kernel_rfl) (fun _ _ _ h => h) (Or.inl ⟨by rfl, ?_⟩) (by assumption) ?_
    rotate_left
    · intro w hSw
      (try dsimp only at hSw)
      go_simp <;> with_reducible rfl
    try simp only [Act.put, List.getElem_toArray, List.getElem_cons_zero, List.getElem_cons_succ, List.setIfInBounds_toArray, List.set_cons_zero, List.set_cons_succ]
    refine wpTo_take (i := 4) (v := ?_) rfl (by kernel_rfl) (by kernel_rfl) (by kernel_rfl) (by kernel_rfl) (by kernel_rfl) (fun _ _ _ h => h) (Or.inl ⟨by rfl, ?_⟩) (by assumption) ?_
    rotate_left
    · intro w hSw
      (try dsimp only at hSw)
      go_simp <;> with_reducible rfl
    try simp only [Act.put, List.getElem_toArray, List.getElem_cons_zero, List.getElem_cons_succ, List.setIfInBounds_toArray, List.set_cons_zero, List.set_cons_succ]
    refine wpTo_take (i := 5) (v := ?_) rfl (by kernel_rfl) (by kernel_rfl) (by kernel_rfl) (by kernel_rfl) (by kernel_rfl) (fun _ _ _ h => h) (Or.inl ⟨by rfl, ?_⟩) (by assumption) ?_
    rotate_left
    · intro w hSw
      (try dsimp only at hSw)
      go_simp <;> with_reducible rfl
    try simp only [Act.put, List.getElem_toArray, List.getElem_cons_zero, List.getElem_cons_succ, List.setIfInBounds_toArray, List.set_cons_zero, List.set_cons_succ]
    refine wpTo_take (i := 6) (v := ?_) rfl (by kernel_rfl) (by kernel_rfl) (by kernel_rfl) (by kernel_rfl) (by kernel_rfl) (fun _ _ _ h => h) (Or.inl ⟨by rfl, ?_⟩) (by assumption) ?_
    rotate_left
    · intro w hSw
      (try dsimp only at hSw)
      go_simp <;> with_reducible rfl
    try simp only [Act.put, List.getElem_toArray, List.getElem_cons_zero, List.getElem_cons_succ, List.setIfInBounds_toArray, List.set_cons_zero, List.set_cons_succ]
    refine wpTo_take (i := 7) (v := ?_) rfl (by kernel_rfl) (by kernel_rfl) (by kernel_rfl) (by kernel_rfl) (by kernel_rfl) (fun _ _ _ h => h) (Or.inl ⟨by rfl, ?_⟩) (by assumption) ?_
    rotate_left
    · intro w hSw
      (try dsimp only at hSw)
      go_simp <;> with_reducible rfl
    try simp only [Act.put, List.getElem_toArray, List.getElem_cons_zero, List.getElem_cons_succ, List.setIfInBounds_toArray, List.set_cons_zero, List.set_cons_succ]
    refine wpTo_take (i := 8) (v := ?_) rfl (by kernel_rfl) (by kernel_rfl) (by kernel_rfl) (by kernel_rfl) (by kernel_rfl) (fun _ _ _ h => h) (Or.inl ⟨by rfl, ?_⟩) (by assumption) ?_
    rotate_left
    · intro w hSw
      (try dsimp only at hSw)
      go_simp <;> with_reducible rfl
    try simp only [Act.put, List.getElem_toArray, List.getElem_cons_zero, List.getElem_cons_succ, List.setIfInBounds_toArray, List.set_cons_zero, List.set_cons_succ]
    refine wpTo_ready (rs := [9]) (by kernel_rfl) (by simp) ?_
    refine AllTo.cons (o := _) rfl (fun K hK => ?_) ?_
    · (try simp only [List.getElem_toArray, List.getElem_cons_zero, List.getElem_cons_succ])
      go_simp
      refine hK.out _ _ (fun _ => by assumption) ?_
      clear hK K
      try simp only [Act.put, List.getElem_toArray, List.getElem_cons_zero, List.getElem_cons_succ, List.setIfInBounds_toArray, List.set_cons_zero, List.set_cons_succ]
      (try clear hHeld)
      refine wpTo_ready (rs := [10]) (by kernel_rfl) (by simp) ?_
      refine AllTo.cons (o := _) rfl (fun K hK => ?_) ?_
      · (try simp only [List.getElem_toArray, List.getElem_cons_zero, List.getElem_cons_succ])
        go_simp
        refine (l1Below_any (G + 2) a n c zs _ _ (unhide HC3) (by omega) (by omega)).mono ?_
        rintro e u1 ⟨y, rfl, y0, y1, hc4, hg4⟩
        have KBu1 : Hid (∀ b, b < u0.heap.size → G + 2 < b → u1.heap[b]? = u0.heap[b]?) := fun b hb hgt => hg4.block b hb (by intro e; cases e; omega)
        have hSu1 := (unhide KS) u1 (unhide KBu1)
        have k4_0 := k3_0.grown hg4 (by omega) (by intro e; injection e with e; omega)
        have k4_1 := k3_1.grown hg4 (by omega) (by intro e; injection e with e; omega)
        have HB4 := hide ((unhide HB3).grown hg4 (by rw [← unhide HG]; omega) (by intro k hk; cases hk; rw [← unhide HG]; omega))
        obtain ⟨m, rfl⟩ := Int.eq_ofNat_of_zero_le y0
        have hm : m < r.types.length := by omega
        have hm2 : (m : Int) < (r.types.length : Int) := by omega
        obtain ⟨b9, o9, hbo, hct⟩ := (rdr_grown (by omega) TypeV.len (unhide RQ3).2.1 hg4 (unhide hfar2).2.1).2 m hm
        simp only [Option.some.injEq, Addr.mk.injEq] at hbo
        obtain ⟨rfl, rfl, _⟩ := hbo
        generalize r.types.getD m default = t at hct
        have HDu1 : Hid (∀ j, j < 7 → u1.cell? ⟨bt, ot + m * 7 + j, none⟩ = (TypeV.cells t)[j]?) := hct
        clear hct hc4 hg4 k3_0 k3_1 HB3 HC3 RQ3 y0 y1
        go_wp2_with fail
        refine hK.out _ _ (fun _ => hSu1) ?_
        clear hK K
        try simp only [Act.put, List.getElem_toArray, List.getElem_cons_zero, List.getElem_cons_succ, List.setIfInBounds_toArray, List.set_cons_zero, List.set_cons_succ]
        (try clear hHeld)
        refine wpTo_ready (rs := [11, 13]) (by kernel_rfl) (by simp) ?_
        refine AllTo.cons (o := _) rfl (fun K hK => ?_) ?_
        · (try simp only [List.getElem_toArray, List.getElem_cons_zero, List.getElem_cons_succ])
          go_simp
          refine hK.out _ _ (fun _ => hSu1) ?_
          clear hK K
          try simp only [Act.put, List.getElem_toArray, List.getElem_cons_zero, List.getElem_cons_succ, List.setIfInBounds_toArray, List.set_cons_zero, List.set_cons_succ]
          (try clear hHeld)
          refine wpTo_ready (rs := [12, 13]) (by kernel_rfl) (by simp) ?_
          refine AllTo.cons (o := _) rfl (fun K hK => ?_) ?_
          · (try simp only [List.getElem_toArray, List.getElem_cons_zero, List.getElem_cons_succ])
            have d0 : u1.cell? ⟨bt, ot + m * 7, none⟩ = some (.int .i64 t.id) := (unhide HDu1) 0 (by omega)
            have d1 : u1.cell? ⟨bt, ot + m * 7 + 1, none⟩ = some (.int .i64 t.wd) := (unhide HDu1) 1 (by omega)
            have d2 : u1.cell? ⟨bt, ot + m * 7 + 2, none⟩ = some (.int .i64 t.ht) := (unhide HDu1) 2 (by omega)
            have d3 : u1.cell? ⟨bt, ot + m * 7 + 3, none⟩ = some (.int .i64 t.dp) := (unhide HDu1) 3 (by omega)
            have d4 : u1.cell? ⟨bt, ot + m * 7 + 4, none⟩ = some (.int .i64 t.tare) := (unhide HDu1) 4 (by omega)
            have d5 : u1.cell? ⟨bt, ot + m * 7 + 5, none⟩ = some (.int .i64 t.gram) := (unhide HDu1) 5 (by omega)
            have d6 : u1.cell? ⟨bt, ot + m * 7 + 6, none⟩ = some (.int .i64 t.cost) := (unhide HDu1) 6 (by omega)
            go_simp
            refine hK.out _ _ (fun _ => hSu1) ?_
            clear hK K
            try simp only [Act.put, List.getElem_toArray, List.getElem_cons_zero, List.getElem_cons_succ, List.setIfInBounds_toArray, List.set_cons_zero, List.set_cons_succ]
            clear d0 d1 d2 d3 d4 d5 d6
            (try clear hHeld)
            refine wpTo_ready (rs := [13]) (by kernel_rfl) (by simp) ?_
            refine AllTo.cons (o := _) rfl (fun K hK => ?_) ?_
            · (try simp only [List.getElem_toArray, List.getElem_cons_zero, List.getElem_cons_succ])
              have q0 : u1.cell? ⟨G, 0, none⟩ = some (.int .i64 0) := (k4_0 0 (by simp)).1
              have qf0 : u1.frozen? ⟨G, 0, none⟩ = false := (k4_0 0 (by simp)).2
              have q1 : u1.cell? ⟨G, 1, none⟩ = some (.int .i64 0) := (k4_0 1 (by simp)).1
              have qf1 : u1.frozen? ⟨G, 1, none⟩ = false := (k4_0 1 (by simp)).2
              have q2 : u1.cell? ⟨G, 2, none⟩ = some (.int .i64 0) := (k4_0 2 (by simp)).1
              have qf2 : u1.frozen? ⟨G, 2, none⟩ = false := (k4_0 2 (by simp)).2
              have q3 : u1.cell? ⟨G, 3, none⟩ = some (.int .i64 0) := (k4_0 3 (by simp)).1
              have qf3 : u1.frozen? ⟨G, 3, none⟩ = false := (k4_0 3 (by simp)).2
              have q4 : u1.cell? ⟨G, 4, none⟩ = some (.int .i64 0) := (k4_0 4 (by simp)).1
              have qf4 : u1.frozen? ⟨G, 4, none⟩ = false := (k4_0 4 (by simp)).2
              have q5 : u1.cell? ⟨G, 5, none⟩ = some (.int .i64 0) := (k4_0 5 (by simp)).1
              have qf5 : u1.frozen? ⟨G, 5, none⟩ = false := (k4_0 5 (by simp)).2
              have q6 : u1.cell? ⟨G, 6, none⟩ = some (.int .i64 0) := (k4_0 6 (by simp)).1
              have qf6 : u1.frozen? ⟨G, 6, none⟩ = false := (k4_0 6 (by simp)).2
              go_simp
              have KBu2 : Hid (∀ b, b < u0.heap.size → G + 2 < b → (((((((u1.setCell ⟨G, 0, none⟩ (.int .i64 q.id)).setCell ⟨G, 1, none⟩ (.int .i64 q.wd)).setCell ⟨G, 2, none⟩ (.int .i64 q.ht)).setCell ⟨G, 3, none⟩ (.int .i64 q.dp)).setCell ⟨G, 4, none⟩ (.int .i64 q.gram)).setCell ⟨G, 5, none⟩ (.int .i64 q.cls)).setCell ⟨G, 6, none⟩ (.int .i64 q.cnt)).heap[b]? = u0.heap[b]?) := fun b hb hgt => (heap_fill7 (by omega)).trans ((unhide KBu1) b hb hgt)
              have hSu2 := (unhide KS) _ (unhide KBu2)
              refine hK.out _ _ (fun _ => hSu2) ?_
              clear hK K
              try simp only [Act.put, List.getElem_toArray, List.getElem_cons_zero, List.getElem_cons_succ, List.setIfInBounds_toArray, List.set_cons_zero, List.set_cons_succ]
              have HDu2 : Hid (∀ j, j < 7 → (((((((u1.setCell ⟨G, 0, none⟩ (.int .i64 q.id)).setCell ⟨G, 1, none⟩ (.int .i64 q.wd)).setCell ⟨G, 2, none⟩ (.int .i64 q.ht)).setCell ⟨G, 3, none⟩ (.int .i64 q.dp)).setCell ⟨G, 4, none⟩ (.int .i64 q.gram)).setCell ⟨G, 5, none⟩ (.int .i64 q.cls)).setCell ⟨G, 6, none⟩ (.int .i64 q.cnt)).cell? ⟨bt, ot + m * 7 + j, none⟩ = (TypeV.cells t)[j]?) := fun j hj => (World.cell?_of_block (w := u1) (heap_fill7 (show bt ≠ G by omega))).trans ((unhide HDu1) j hj)
              have K5 : Blk (((((((u1.setCell ⟨G, 0, none⟩ (.int .i64 q.id)).setCell ⟨G, 1, none⟩ (.int .i64 q.wd)).setCell ⟨G, 2, none⟩ (.int .i64 q.ht)).setCell ⟨G, 3, none⟩ (.int .i64 q.dp)).setCell ⟨G, 4, none⟩ (.int .i64 q.gram)).setCell ⟨G, 5, none⟩ (.int .i64 q.cls)).setCell ⟨G, 6, none⟩ (.int .i64 q.cnt)) G [.int .i64 q.id, .int .i64 q.wd, .int .i64 q.ht, .int .i64 q.dp, .int .i64 q.gram, .int .i64 q.cls, .int .i64 q.cnt] := Blk.fill7 k4_0
              have K6 : Blk (((((((u1.setCell ⟨G, 0, none⟩ (.int .i64 q.id)).setCell ⟨G, 1, none⟩ (.int .i64 q.wd)).setCell ⟨G, 2, none⟩ (.int .i64 q.ht)).setCell ⟨G, 3, none⟩ (.int .i64 q.dp)).setCell ⟨G, 4, none⟩ (.int .i64 q.gram)).setCell ⟨G, 5, none⟩ (.int .i64 q.cls)).setCell ⟨G, 6, none⟩ (.int .i64 q.cnt)) (G + 1) [.int .i64 0, .int .i64 0, .int .i64 0, .int .i64 0, .int .i64 0, .int .i64 0, .int .i64 0] := ((((((k4_1.other (by omega)).other (by omega)).other (by omega)).other (by omega)).other (by omega)).other (by omega)).other (by omega)
              have HB5 : Hid (Below w.heap.size w (((((((u1.setCell ⟨G, 0, none⟩ (.int .i64 q.id)).setCell ⟨G, 1, none⟩ (.int .i64 q.wd)).setCell ⟨G, 2, none⟩ (.int .i64 q.ht)).setCell ⟨G, 3, none⟩ (.int .i64 q.dp)).setCell ⟨G, 4, none⟩ (.int .i64 q.gram)).setCell ⟨G, 5, none⟩ (.int .i64 q.cls)).setCell ⟨G, 6, none⟩ (.int .i64 q.cnt))) := below_fill7 (unhide HB4) (by rw [← unhide HG]; exact Nat.le_refl _)
              clear q0 qf0 q1 qf1 q2 qf2 q3 qf3 q4 qf4 q5 qf5 q6 qf6 k4_0 k4_1 HB4 hSu1 KBu1 HDu1
              generalize (((((((u1.setCell ⟨G, 0, none⟩ (.int .i64 q.id)).setCell ⟨G, 1, none⟩ (.int .i64 q.wd)).setCell ⟨G, 2, none⟩ (.int .i64 q.ht)).setCell ⟨G, 3, none⟩ (.int .i64 q.dp)).setCell ⟨G, 4, none⟩ (.int .i64 q.gram)).setCell ⟨G, 5, none⟩ (.int .i64 q.cls)).setCell ⟨G, 6, none⟩ (.int .i64 q.cnt)) = u2 at *
              (try clear hHeld)
              refine wpTo_ready (rs := [14]) (by kernel_rfl) (by simp) ?_
              refine AllTo.cons (o := _) rfl (fun K hK => ?_) ?_
              · (try simp only [List.getElem_toArray, List.getElem_cons_zero, List.getElem_cons_succ])
                have p0 : u2.cell? ⟨G + 1, 0, none⟩ = some (.int .i64 0) := (K6 0 (by simp)).1
                have pf0 : u2.frozen? ⟨G + 1, 0, none⟩ = false := (K6 0 (by simp)).2
                have p1 : u2.cell? ⟨G + 1, 1, none⟩ = some (.int .i64 0) := (K6 1 (by simp)).1
                have pf1 : u2.frozen? ⟨G + 1, 1, none⟩ = false := (K6 1 (by simp)).2
                have p2 : u2.cell? ⟨G + 1, 2, none⟩ = some (.int .i64 0) := (K6 2 (by simp)).1
                have pf2 : u2.frozen? ⟨G + 1, 2, none⟩ = false := (K6 2 (by simp)).2
                have p3 : u2.cell? ⟨G + 1, 3, none⟩ = some (.int .i64 0) := (K6 3 (by simp)).1
                have pf3 : u2.frozen? ⟨G + 1, 3, none⟩ = false := (K6 3 (by simp)).2
                have p4 : u2.cell? ⟨G + 1, 4, none⟩ = some (.int .i64 0) := (K6 4 (by simp)).1
                have pf4 : u2.frozen? ⟨G + 1, 4, none⟩ = false := (K6 4 (by simp)).2
                have p5 : u2.cell? ⟨G + 1, 5, none⟩ = some (.int .i64 0) := (K6 5 (by simp)).1
                have pf5 : u2.frozen? ⟨G + 1, 5, none⟩ = false := (K6 5 (by simp)).2
                have p6 : u2.cell? ⟨G + 1, 6, none⟩ = some (.int .i64 0) := (K6 6 (by simp)).1
                have pf6 : u2.frozen? ⟨G + 1, 6, none⟩ = false := (K6 6 (by simp)).2
                go_simp
                refine hK.out _ _ (fun _ => (unhide KS) _ (fun b hb hgt => (heap_fill7 (by omega)).trans ((unhide KBu2) b hb hgt))) ?_
                clear hK K
                try simp only [Act.put, List.getElem_toArray, List.getElem_cons_zero, List.getElem_cons_succ, List.setIfInBounds_toArray, List.set_cons_zero, List.set_cons_succ]
                refine wpTo_done (by kernel_rfl) ?_ _
                refine NoPanic.normal ?_
                have K7 : Blk (((((((u2.setCell ⟨G + 1, 0, none⟩ (.int .i64 t.id)).setCell ⟨G + 1, 1, none⟩ (.int .i64 t.wd)).setCell ⟨G + 1, 2, none⟩ (.int .i64 t.ht)).setCell ⟨G + 1, 3, none⟩ (.int .i64 t.dp)).setCell ⟨G + 1, 4, none⟩ (.int .i64 t.tare)).setCell ⟨G + 1, 5, none⟩ (.int .i64 t.gram)).setCell ⟨G + 1, 6, none⟩ (.int .i64 t.cost)) (G + 1) [.int .i64 t.id, .int .i64 t.wd, .int .i64 t.ht, .int .i64 t.dp, .int .i64 t.tare, .int .i64 t.gram, .int .i64 t.cost] := Blk.fill7 K6
                have K8 : Blk (((((((u2.setCell ⟨G + 1, 0, none⟩ (.int .i64 t.id)).setCell ⟨G + 1, 1, none⟩ (.int .i64 t.wd)).setCell ⟨G + 1, 2, none⟩ (.int .i64 t.ht)).setCell ⟨G + 1, 3, none⟩ (.int .i64 t.dp)).setCell ⟨G + 1, 4, none⟩ (.int .i64 t.tare)).setCell ⟨G + 1, 5, none⟩ (.int .i64 t.gram)).setCell ⟨G + 1, 6, none⟩ (.int .i64 t.cost)) G [.int .i64 q.id, .int .i64 q.wd, .int .i64 q.ht, .int .i64 q.dp, .int .i64 q.gram, .int .i64 q.cls, .int .i64 q.cnt] := ((((((K5.other (by omega)).other (by omega)).other (by omega)).other (by omega)).other (by omega)).other (by omega)).other (by omega)
                have HB6 : Hid (Below w.heap.size w (((((((u2.setCell ⟨G + 1, 0, none⟩ (.int .i64 t.id)).setCell ⟨G + 1, 1, none⟩ (.int .i64 t.wd)).setCell ⟨G + 1, 2, none⟩ (.int .i64 t.ht)).setCell ⟨G + 1, 3, none⟩ (.int .i64 t.dp)).setCell ⟨G + 1, 4, none⟩ (.int .i64 t.tare)).setCell ⟨G + 1, 5, none⟩ (.int .i64 t.gram)).setCell ⟨G + 1, 6, none⟩ (.int .i64 t.cost))) := below_fill7 (unhide HB5) (by rw [← unhide HG]; omega)
                clear K5 K6 HB5 p0 pf0 p1 pf1 p2 pf2 p3 pf3 p4 pf4 p5 pf5 p6 pf6
                generalize (((((((u2.setCell ⟨G + 1, 0, none⟩ (.int .i64 t.id)).setCell ⟨G + 1, 1, none⟩ (.int .i64 t.wd)).setCell ⟨G + 1, 2, none⟩ (.int .i64 t.ht)).setCell ⟨G + 1, 3, none⟩ (.int .i64 t.dp)).setCell ⟨G + 1, 4, none⟩ (.int .i64 t.tare)).setCell ⟨G + 1, 5, none⟩ (.int .i64 t.gram)).setCell ⟨G + 1, 6, none⟩ (.int .i64 t.cost)) = u3 at *
                have r0 : u3.cell? ⟨G, 0, none⟩ = some (.int .i64 q.id) := (K8 0 (by simp)).1
                have r1 : u3.cell? ⟨G, 1, none⟩ = some (.int .i64 q.wd) := (K8 1 (by simp)).1
                have r2 : u3.cell? ⟨G, 2, none⟩ = some (.int .i64 q.ht) := (K8 2 (by simp)).1
                have r3 : u3.cell? ⟨G, 3, none⟩ = some (.int .i64 q.dp) := (K8 3 (by simp)).1
                have r4 : u3.cell? ⟨G, 4, none⟩ = some (.int .i64 q.gram) := (K8 4 (by simp)).1
                have r5 : u3.cell? ⟨G, 5, none⟩ = some (.int .i64 q.cls) := (K8 5 (by simp)).1
                have r6 : u3.cell? ⟨G, 6, none⟩ = some (.int .i64 q.cnt) := (K8 6 (by simp)).1
                have s0 : u3.cell? ⟨G + 1, 0, none⟩ = some (.int .i64 t.id) := (K7 0 (by simp)).1
                have s1 : u3.cell? ⟨G + 1, 1, none⟩ = some (.int .i64 t.wd) := (K7 1 (by simp)).1
                have s2 : u3.cell? ⟨G + 1, 2, none⟩ = some (.int .i64 t.ht) := (K7 2 (by simp)).1
                have s3 : u3.cell? ⟨G + 1, 3, none⟩ = some (.int .i64 t.dp) := (K7 3 (by simp)).1
                have s4 : u3.cell? ⟨G + 1, 4, none⟩ = some (.int .i64 t.tare) := (K7 4 (by simp)).1
                have s5 : u3.cell? ⟨G + 1, 5, none⟩ = some (.int .i64 t.gram) := (K7 5 (by simp)).1
                have s6 : u3.cell? ⟨G + 1, 6, none⟩ = some (.int .i64 t.cost) := (K7 6 (by simp)).1
                go_wp2
                refine bodyPost_ret (v := .tuple #[.agg #[.int .i64 q.id, .int .i64 q.wd, .int .i64 q.ht, .int .i64 q.dp, .int .i64 q.gram, .int .i64 q.cls, .int .i64 q.cnt], .agg #[.int .i64 t.id, .int .i64 t.wd, .int .i64 t.ht, .int .i64 t.dp, .int .i64 t.tare, .int .i64 t.gram, .int .i64 t.cost]]) (by simp [results, Try.results7, go_sem, r0, s0, r1, s1, r2, s2, r3, s3, r4, s4, r5, s5, r6, s6]) rfl ?_
                exact ⟨q, t, rfl, unhide HB6⟩
              exact AllTo.nil
            exact AllTo.nil
          refine AllTo.cons (o := _) rfl (fun K hK => ?_) ?_
          · (try simp only [List.getElem_toArray, List.getElem_cons_zero, List.getElem_cons_succ])
            have q0 : u1.cell? ⟨G, 0, none⟩ = some (.int .i64 0) := (k4_0 0 (by simp)).1
            have qf0 : u1.frozen? ⟨G, 0, none⟩ = false := (k4_0 0 (by simp)).2
            have q1 : u1.cell? ⟨G, 1, none⟩ = some (.int .i64 0) := (k4_0 1 (by simp)).1
            have qf1 : u1.frozen? ⟨G, 1, none⟩ = false := (k4_0 1 (by simp)).2
            have q2 : u1.cell? ⟨G, 2, none⟩ = some (.int .i64 0) := (k4_0 2 (by simp)).1
            have qf2 : u1.frozen? ⟨G, 2, none⟩ = false := (k4_0 2 (by simp)).2
            have q3 : u1.cell? ⟨G, 3, none⟩ = some (.int .i64 0) := (k4_0 3 (by simp)).1
            have qf3 : u1.frozen? ⟨G, 3, none⟩ = false := (k4_0 3 (by simp)).2
            have q4 : u1.cell? ⟨G, 4, none⟩ = some (.int .i64 0) := (k4_0 4 (by simp)).1
            have qf4 : u1.frozen? ⟨G, 4, none⟩ = false := (k4_0 4 (by simp)).2
            have q5 : u1.cell? ⟨G, 5, none⟩ = some (.int .i64 0) := (k4_0 5 (by simp)).1
            have qf5 : u1.frozen? ⟨G, 5, none⟩ = false := (k4_0 5 (by simp)).2
            have q6 : u1.cell? ⟨G, 6, none⟩ = some (.int .i64 0) := (k4_0 6 (by simp)).1
            have qf6 : u1.frozen? ⟨G, 6, none⟩ = false := (k4_0 6 (by simp)).2
            go_simp
            have KBu2 : Hid (∀ b, b < u0.heap.size → G + 2 < b → (((((((u1.setCell ⟨G, 0, none⟩ (.int .i64 q.id)).setCell ⟨G, 1, none⟩ (.int .i64 q.wd)).setCell ⟨G, 2, none⟩ (.int .i64 q.ht)).setCell ⟨G, 3, none⟩ (.int .i64 q.dp)).setCell ⟨G, 4, none⟩ (.int .i64 q.gram)).setCell ⟨G, 5, none⟩ (.int .i64 q.cls)).setCell ⟨G, 6, none⟩ (.int .i64 q.cnt)).heap[b]? = u0.heap[b]?) := fun b hb hgt => (heap_fill7 (by omega)).trans ((unhide KBu1) b hb hgt)
            have hSu2 := (unhide KS) _ (unhide KBu2)
            refine hK.out _ _ (fun _ => hSu2) ?_
            clear hK K
            try simp only [Act.put, List.getElem_toArray, List.getElem_cons_zero, List.getElem_cons_succ, List.setIfInBounds_toArray, List.set_cons_zero, List.set_cons_succ]
            have HDu2 : Hid (∀ j, j < 7 → (((((((u1.setCell ⟨G, 0, none⟩ (.int .i64 q.id)).setCell ⟨G, 1, none⟩ (.int .i64 q.wd)).setCell ⟨G, 2, none⟩ (.int .i64 q.ht)).setCell ⟨G, 3, none⟩ (.int .i64 q.dp)).setCell ⟨G, 4, none⟩ (.int .i64 q.gram)).setCell ⟨G, 5, none⟩ (.int .i64 q.cls)).setCell ⟨G, 6, none⟩ (.int .i64 q.cnt)).cell? ⟨bt, ot + m * 7 + j, none⟩ = (TypeV.cells t)[j]?) := fun j hj => (World.cell?_of_block (w := u1) (heap_fill7 (show bt ≠ G by omega))).trans ((unhide HDu1) j hj)
            have K5 : Blk (((((((u1.setCell ⟨G, 0, none⟩ (.int .i64 q.id)).setCell ⟨G, 1, none⟩ (.int .i64 q.wd)).setCell ⟨G, 2, none⟩ (.int .i64 q.ht)).setCell ⟨G, 3, none⟩ (.int .i64 q.dp)).setCell ⟨G, 4, none⟩ (.int .i64 q.gram)).setCell ⟨G, 5, none⟩ (.int .i64 q.cls)).setCell ⟨G, 6, none⟩ (.int .i64 q.cnt)) G [.int .i64 q.id, .int .i64 q.wd, .int .i64 q.ht, .int .i64 q.dp, .int .i64 q.gram, .int .i64 q.cls, .int .i64 q.cnt] := Blk.fill7 k4_0
            have K6 : Blk (((((((u1.setCell ⟨G, 0, none⟩ (.int .i64 q.id)).setCell ⟨G, 1, none⟩ (.int .i64 q.wd)).setCell ⟨G, 2, none⟩ (.int .i64 q.ht)).setCell ⟨G, 3, none⟩ (.int .i64 q.dp)).setCell ⟨G, 4, none⟩ (.int .i64 q.gram)).setCell ⟨G, 5, none⟩ (.int .i64 q.cls)).setCell ⟨G, 6, none⟩ (.int .i64 q.cnt)) (G + 1) [.int .i64 0, .int .i64 0, .int .i64 0, .int .i64 0, .int .i64 0, .int .i64 0, .int .i64 0] := ((((((k4_1.other (by omega)).other (by omega)).other (by omega)).other (by omega)).other (by omega)).other (by omega)).other (by omega)
            have HB5 : Hid (Below w.heap.size w (((((((u1.setCell ⟨G, 0, none⟩ (.int .i64 q.id)).setCell ⟨G, 1, none⟩ (.int .i64 q.wd)).setCell ⟨G, 2, none⟩ (.int .i64 q.ht)).setCell ⟨G, 3, none⟩ (.int .i64 q.dp)).setCell ⟨G, 4, none⟩ (.int .i64 q.gram)).setCell ⟨G, 5, none⟩ (.int .i64 q.cls)).setCell ⟨G, 6, none⟩ (.int .i64 q.cnt))) := below_fill7 (unhide HB4) (by rw [← unhide HG]; exact Nat.le_refl _)
            clear q0 qf0 q1 qf1 q2 qf2 q3 qf3 q4 qf4 q5 qf5 q6 qf6 k4_0 k4_1 HB4 hSu1 KBu1 HDu1
            generalize (((((((u1.setCell ⟨G, 0, none⟩ (.int .i64 q.id)).setCell ⟨G, 1, none⟩ (.int .i64 q.wd)).setCell ⟨G, 2, none⟩ (.int .i64 q.ht)).setCell ⟨G, 3, none⟩ (.int .i64 q.dp)).setCell ⟨G, 4, none⟩ (.int .i64 q.gram)).setCell ⟨G, 5, none⟩ (.int .i64 q.cls)).setCell ⟨G, 6, none⟩ (.int .i64 q.cnt)) = u2 at *
            (try clear hHeld)
            refine wpTo_ready (rs := [12]) (by kernel_rfl) (by simp) ?_
            refine AllTo.cons (o := _) rfl (fun K hK => ?_) ?_
            · (try simp only [List.getElem_toArray, List.getElem_cons_zero, List.getElem_cons_succ])
              have d0 : u2.cell? ⟨bt, ot + m * 7, none⟩ = some (.int .i64 t.id) := (unhide HDu2) 0 (by omega)
              have d1 : u2.cell? ⟨bt, ot + m * 7 + 1, none⟩ = some (.int .i64 t.wd) := (unhide HDu2) 1 (by omega)
              have d2 : u2.cell? ⟨bt, ot + m * 7 + 2, none⟩ = some (.int .i64 t.ht) := (unhide HDu2) 2 (by omega)
              have d3 : u2.cell? ⟨bt, ot + m * 7 + 3, none⟩ = some (.int .i64 t.dp) := (unhide HDu2) 3 (by omega)
              have d4 : u2.cell? ⟨bt, ot + m * 7 + 4, none⟩ = some (.int .i64 t.tare) := (unhide HDu2) 4 (by omega)
              have d5 : u2.cell? ⟨bt, ot + m * 7 + 5, none⟩ = some (.int .i64 t.gram) := (unhide HDu2) 5 (by omega)
              have d6 : u2.cell? ⟨bt, ot + m * 7 + 6, none⟩ = some (.int .i64 t.cost) := (unhide HDu2) 6 (by omega)
              go_simp
              refine hK.out _ _ (fun _ => hSu2) ?_
              clear hK K
              try simp only [Act.put, List.getElem_toArray, List.getElem_cons_zero, List.getElem_cons_succ, List.setIfInBounds_toArray, List.set_cons_zero, List.set_cons_succ]
              clear d0 d1 d2 d3 d4 d5 d6
              (try clear hHeld)
              refine wpTo_ready (rs := [14]) (by kernel_rfl) (by simp) ?_
              refine AllTo.cons (o := _) rfl (fun K hK => ?_) ?_
              · (try simp only [List.getElem_toArray, List.getElem_cons_zero, List.getElem_cons_succ])
                have p0 : u2.cell? ⟨G + 1, 0, none⟩ = some (.int .i64 0) := (K6 0 (by simp)).1
                have pf0 : u2.frozen? ⟨G + 1, 0, none⟩ = false := (K6 0 (by simp)).2
                have p1 : u2.cell? ⟨G + 1, 1, none⟩ = some (.int .i64 0) := (K6 1 (by simp)).1
                have pf1 : u2.frozen? ⟨G + 1, 1, none⟩ = false := (K6 1 (by simp)).2
                have p2 : u2.cell? ⟨G + 1, 2, none⟩ = some (.int .i64 0) := (K6 2 (by simp)).1
                have pf2 : u2.frozen? ⟨G + 1, 2, none⟩ = false := (K6 2 (by simp)).2
                have p3 : u2.cell? ⟨G + 1, 3, none⟩ = some (.int .i64 0) := (K6 3 (by simp)).1
                have pf3 : u2.frozen? ⟨G + 1, 3, none⟩ = false := (K6 3 (by simp)).2
                have p4 : u2.cell? ⟨G + 1, 4, none⟩ = some (.int .i64 0) := (K6 4 (by simp)).1
                have pf4 : u2.frozen? ⟨G + 1, 4, none⟩ = false := (K6 4 (by simp)).2
                have p5 : u2.cell? ⟨G + 1, 5, none⟩ = some (.int .i64 0) := (K6 5 (by simp)).1
                have pf5 : u2.frozen? ⟨G + 1, 5, none⟩ = false := (K6 5 (by simp)).2
                have p6 : u2.cell? ⟨G + 1, 6, none⟩ = some (.int .i64 0) := (K6 6 (by simp)).1
                have pf6 : u2.frozen? ⟨G + 1, 6, none⟩ = false := (K6 6 (by simp)).2
                go_simp
                refine hK.out _ _ (fun _ => (unhide KS) _ (fun b hb hgt => (heap_fill7 (by omega)).trans ((unhide KBu2) b hb hgt))) ?_
                clear hK K
                try simp only [Act.put, List.getElem_toArray, List.getElem_cons_zero, List.getElem_cons_succ, List.setIfInBounds_toArray, List.set_cons_zero, List.set_cons_succ]
                refine wpTo_done (by kernel_rfl) ?_ _
                refine NoPanic.normal ?_
                have K7 : Blk (((((((u2.setCell ⟨G + 1, 0, none⟩ (.int .i64 t.id)).setCell ⟨G + 1, 1, none⟩ (.int .i64 t.wd)).setCell ⟨G + 1, 2, none⟩ (.int .i64 t.ht)).setCell ⟨G + 1, 3, none⟩ (.int .i64 t.dp)).setCell ⟨G + 1, 4, none⟩ (.int .i64 t.tare)).setCell ⟨G + 1, 5, none⟩ (.int .i64 t.gram)).setCell ⟨G + 1, 6, none⟩ (.int .i64 t.cost)) (G + 1) [.int .i64 t.id, .int .i64 t.wd, .int .i64 t.ht, .int .i64 t.dp, .int .i64 t.tare, .int .i64 t.gram, .int .i64 t.cost] := Blk.fill7 K6
                have K8 : Blk (((((((u2.setCell ⟨G + 1, 0, none⟩ (.int .i64 t.id)).setCell ⟨G + 1, 1, none⟩ (.int .i64 t.wd)).setCell ⟨G + 1, 2, none⟩ (.int .i64 t.ht)).setCell ⟨G + 1, 3, none⟩ (.int .i64 t.dp)).setCell ⟨G + 1, 4, none⟩ (.int .i64 t.tare)).setCell ⟨G + 1, 5, none⟩ (.int .i64 t.gram)).setCell ⟨G + 1, 6, none⟩ (.int .i64 t.cost)) G [.int .i64 q.id, .int .i64 q.wd, .int .i64 q.ht, .int .i64 q.dp, .int .i64 q.gram, .int .i64 q.cls, .int .i64 q.cnt] := ((((((K5.other (by omega)).other (by omega)).other (by omega)).other (by omega)).other (by omega)).other (by omega)).other (by omega)
                have HB6 : Hid (Below w.heap.size w (((((((u2.setCell ⟨G + 1, 0, none⟩ (.int .i64 t.id)).setCell ⟨G + 1, 1, none⟩ (.int .i64 t.wd)).setCell ⟨G + 1, 2, none⟩ (.int .i64 t.ht)).setCell ⟨G + 1, 3, none⟩ (.int .i64 t.dp)).setCell ⟨G + 1, 4, none⟩ (.int .i64 t.tare)).setCell ⟨G + 1, 5, none⟩ (.int .i64 t.gram)).setCell ⟨G + 1, 6, none⟩ (.int .i64 t.cost))) := below_fill7 (unhide HB5) (by rw [← unhide HG]; omega)
                clear K5 K6 HB5 p0 pf0 p1 pf1 p2 pf2 p3 pf3 p4 pf4 p5 pf5 p6 pf6
                generalize (((((((u2.setCell ⟨G + 1, 0, none⟩ (.int .i64 t.id)).setCell ⟨G + 1, 1, none⟩ (.int .i64 t.wd)).setCell ⟨G + 1, 2, none⟩ (.int .i64 t.ht)).setCell ⟨G + 1, 3, none⟩ (.int .i64 t.dp)).setCell ⟨G + 1, 4, none⟩ (.int .i64 t.tare)).setCell ⟨G + 1, 5, none⟩ (.int .i64 t.gram)).setCell ⟨G + 1, 6, none⟩ (.int .i64 t.cost)) = u3 at *
                have r0 : u3.cell? ⟨G, 0, none⟩ = some (.int .i64 q.id) := (K8 0 (by simp)).1
                have r1 : u3.cell? ⟨G, 1, none⟩ = some (.int .i64 q.wd) := (K8 1 (by simp)).1
                have r2 : u3.cell? ⟨G, 2, none⟩ = some (.int .i64 q.ht) := (K8 2 (by simp)).1
                have r3 : u3.cell? ⟨G, 3, none⟩ = some (.int .i64 q.dp) := (K8 3 (by simp)).1
                have r4 : u3.cell? ⟨G, 4, none⟩ = some (.int .i64 q.gram) := (K8 4 (by simp)).1
                have r5 : u3.cell? ⟨G, 5, none⟩ = some (.int .i64 q.cls) := (K8 5 (by simp)).1
                have r6 : u3.cell? ⟨G, 6, none⟩ = some (.int .i64 q.cnt) := (K8 6 (by simp)).1
                have s0 : u3.cell? ⟨G + 1, 0, none⟩ = some (.int .i64 t.id) := (K7 0 (by simp)).1
                have s1 : u3.cell? ⟨G + 1, 1, none⟩ = some (.int .i64 t.wd) := (K7 1 (by simp)).1
                have s2 : u3.cell? ⟨G + 1, 2, none⟩ = some (.int .i64 t.ht) := (K7 2 (by simp)).1
                have s3 : u3.cell? ⟨G + 1, 3, none⟩ = some (.int .i64 t.dp) := (K7 3 (by simp)).1
                have s4 : u3.cell? ⟨G + 1, 4, none⟩ = some (.int .i64 t.tare) := (K7 4 (by simp)).1
                have s5 : u3.cell? ⟨G + 1, 5, none⟩ = some (.int .i64 t.gram) := (K7 5 (by simp)).1
                have s6 : u3.cell? ⟨G + 1, 6, none⟩ = some (.int .i64 t.cost) := (K7 6 (by simp)).1
                go_wp2
                refine bodyPost_ret (v := .tuple #[.agg #[.int .i64 q.id, .int .i64 q.wd, .int .i64 q.ht, .int .i64 q.dp, .int .i64 q.gram, .int .i64 q.cls, .int .i64 q.cnt], .agg #[.int .i64 t.id, .int .i64 t.wd, .int .i64 t.ht, .int .i64 t.dp, .int .i64 t.tare, .int .i64 t.gram, .int .i64 t.cost]]) (by simp [results, Try.results7, go_sem, r0, s0, r1, s1, r2, s2, r3, s3, r4, s4, r5, s5, r6, s6]) rfl ?_
                exact ⟨q, t, rfl, unhide HB6⟩
              exact AllTo.nil
            exact AllTo.nil
          exact AllTo.nil
        refine AllTo.cons (o := _) rfl (fun K hK => ?_) ?_
        · (try simp only [List.getElem_toArray, List.getElem_cons_zero, List.getElem_cons_succ])
          have q0 : u1.cell? ⟨G, 0, none⟩ = some (.int .i64 0) := (k4_0 0 (by simp)).1
          have qf0 : u1.frozen? ⟨G, 0, none⟩ = false := (k4_0 0 (by simp)).2
          have q1 : u1.cell? ⟨G, 1, none⟩ = some (.int .i64 0) := (k4_0 1 (by simp)).1
          have qf1 : u1.frozen? ⟨G, 1, none⟩ = false := (k4_0 1 (by simp)).2
          have q2 : u1.cell? ⟨G, 2, none⟩ = some (.int .i64 0) := (k4_0 2 (by simp)).1
          have qf2 : u1.frozen? ⟨G, 2, none⟩ = false := (k4_0 2 (by simp)).2
          have q3 : u1.cell? ⟨G, 3, none⟩ = some (.int .i64 0) := (k4_0 3 (by simp)).1
          have qf3 : u1.frozen? ⟨G, 3, none⟩ = false := (k4_0 3 (by simp)).2
          have q4 : u1.cell? ⟨G, 4, none⟩ = some (.int .i64 0) := (k4_0 4 (by simp)).1
          have qf4 : u1.frozen? ⟨G, 4, none⟩ = false := (k4_0 4 (by simp)).2
          have q5 : u1.cell? ⟨G, 5, none⟩ = some (.int .i64 0) := (k4_0 5 (by simp)).1
          have qf5 : u1.frozen? ⟨G, 5, none⟩ = false := (k4_0 5 (by simp)).2
          have q6 : u1.cell? ⟨G, 6, none⟩ = some (.int .i64 0) := (k4_0 6 (by simp)).1
          have qf6 : u1.frozen? ⟨G, 6, none⟩ = false := (k4_0 6 (by simp)).2
          go_simp
          have KBu2 : Hid (∀ b, b < u0.heap.size → G + 2 < b → (((((((u1.setCell ⟨G, 0, none⟩ (.int .i64 q.id)).setCell ⟨G, 1, none⟩ (.int .i64 q.wd)).setCell ⟨G, 2, none⟩ (.int .i64 q.ht)).setCell ⟨G, 3, none⟩ (.int .i64 q.dp)).setCell ⟨G, 4, none⟩ (.int .i64 q.gram)).setCell ⟨G, 5, none⟩ (.int .i64 q.cls)).setCell ⟨G, 6, none⟩ (.int .i64 q.cnt)).heap[b]? = u0.heap[b]?) := fun b hb hgt => (heap_fill7 (by omega)).trans ((unhide KBu1) b hb hgt)
          have hSu2 := (unhide KS) _ (unhide KBu2)
          refine hK.out _ _ (fun _ => hSu2) ?_
          clear hK K
          try simp only [Act.put, List.getElem_toArray, List.getElem_cons_zero, List.getElem_cons_succ, List.setIfInBounds_toArray, List.set_cons_zero, List.set_cons_succ]
          have HDu2 : Hid (∀ j, j < 7 → (((((((u1.setCell ⟨G, 0, none⟩ (.int .i64 q.id)).setCell ⟨G, 1, none⟩ (.int .i64 q.wd)).setCell ⟨G, 2, none⟩ (.int .i64 q.ht)).setCell ⟨G, 3, none⟩ (.int .i64 q.dp)).setCell ⟨G, 4, none⟩ (.int .i64 q.gram)).setCell ⟨G, 5, none⟩ (.int .i64 q.cls)).setCell ⟨G, 6, none⟩ (.int .i64 q.cnt)).cell? ⟨bt, ot + m * 7 + j, none⟩ = (TypeV.cells t)[j]?) := fun j hj => (World.cell?_of_block (w := u1) (heap_fill7 (show bt ≠ G by omega))).trans ((unhide HDu1) j hj)
          have K5 : Blk (((((((u1.setCell ⟨G, 0, none⟩ (.int .i64 q.id)).setCell ⟨G, 1, none⟩ (.int .i64 q.wd)).setCell ⟨G, 2, none⟩ (.int .i64 q.ht)).setCell ⟨G, 3, none⟩ (.int .i64 q.dp)).setCell ⟨G, 4, none⟩ (.int .i64 q.gram)).setCell ⟨G, 5, none⟩ (.int .i64 q.cls)).setCell ⟨G, 6, none⟩ (.int .i64 q.cnt)) G [.int .i64 q.id, .int .i64 q.wd, .int .i64 q.ht, .int .i64 q.dp, .int .i64 q.gram, .int .i64 q.cls, .int .i64 q.cnt] := Blk.fill7 k4_0
          have K6 : Blk (((((((u1.setCell ⟨G, 0, none⟩ (.int .i64 q.id)).setCell ⟨G, 1, none⟩ (.int .i64 q.wd)).setCell ⟨G, 2, none⟩ (.int .i64 q.ht)).setCell ⟨G, 3, none⟩ (.int .i64 q.dp)).setCell ⟨G, 4, none⟩ (.int .i64 q.gram)).setCell ⟨G, 5, none⟩ (.int .i64 q.cls)).setCell ⟨G, 6, none⟩ (.int .i64 q.cnt)) (G + 1) [.int .i64 0, .int .i64 0, .int .i64 0, .int .i64 0, .int .i64 0, .int .i64 0, .int .i64 0] := ((((((k4_1.other (by omega)).other (by omega)).other (by omega)).other (by omega)).other (by omega)).other (by omega)).other (by omega)
          have HB5 : Hid (Below w.heap.size w (((((((u1.setCell ⟨G, 0, none⟩ (.int .i64 q.id)).setCell ⟨G, 1, none⟩ (.int .i64 q.wd)).setCell ⟨G, 2, none⟩ (.int .i64 q.ht)).setCell ⟨G, 3, none⟩ (.int .i64 q.dp)).setCell ⟨G, 4, none⟩ (.int .i64 q.gram)).setCell ⟨G, 5, none⟩ (.int .i64 q.cls)).setCell ⟨G, 6, none⟩ (.int .i64 q.cnt))) := below_fill7 (unhide HB4) (by rw [← unhide HG]; exact Nat.le_refl _)
          clear q0 qf0 q1 qf1 q2 qf2 q3 qf3 q4 qf4 q5 qf5 q6 qf6 k4_0 k4_1 HB4 hSu1 KBu1 HDu1
          generalize (((((((u1.setCell ⟨G, 0, none⟩ (.int .i64 q.id)).setCell ⟨G, 1, none⟩ (.int .i64 q.wd)).setCell ⟨G, 2, none⟩ (.int .i64 q.ht)).setCell ⟨G, 3, none⟩ (.int .i64 q.dp)).setCell ⟨G, 4, none⟩ (.int .i64 q.gram)).setCell ⟨G, 5, none⟩ (.int .i64 q.cls)).setCell ⟨G, 6, none⟩ (.int .i64 q.cnt)) = u2 at *
          (try clear hHeld)
          refine wpTo_ready (rs := [11]) (by kernel_rfl) (by simp) ?_
          refine AllTo.cons (o := _) rfl (fun K hK => ?_) ?_
          · (try simp only [List.getElem_toArray, List.getElem_cons_zero, List.getElem_cons_succ])
            go_simp
            refine hK.out _ _ (fun _ => hSu2) ?_
            clear hK K
            try simp only [Act.put, List.getElem_toArray, List.getElem_cons_zero, List.getElem_cons_succ, List.setIfInBounds_toArray, List.set_cons_zero, List.set_cons_succ]
            (try clear hHeld)
            refine wpTo_ready (rs := [12]) (by kernel_rfl) (by simp) ?_
            refine AllTo.cons (o := _) rfl (fun K hK => ?_) ?_
            · (try simp only [List.getElem_toArray, List.getElem_cons_zero, List.getElem_cons_succ])
              have d0 : u2.cell? ⟨bt, ot + m * 7, none⟩ = some (.int .i64 t.id) := (unhide HDu2) 0 (by omega)
              have d1 : u2.cell? ⟨bt, ot + m * 7 + 1, none⟩ = some (.int .i64 t.wd) := (unhide HDu2) 1 (by omega)
              have d2 : u2.cell? ⟨bt, ot + m * 7 + 2, none⟩ = some (.int .i64 t.ht) := (unhide HDu2) 2 (by omega)
              have d3 : u2.cell? ⟨bt, ot + m * 7 + 3, none⟩ = some (.int .i64 t.dp) := (unhide HDu2) 3 (by omega)
              have d4 : u2.cell? ⟨bt, ot + m * 7 + 4, none⟩ = some (.int .i64 t.tare) := (unhide HDu2) 4 (by omega)
              have d5 : u2.cell? ⟨bt, ot + m * 7 + 5, none⟩ = some (.int .i64 t.gram) := (unhide HDu2) 5 (by omega)
              have d6 : u2.cell? ⟨bt, ot + m * 7 + 6, none⟩ = some (.int .i64 t.cost) := (unhide HDu2) 6 (by omega)
              go_simp
              refine hK.out _ _ (fun _ => hSu2) ?_
              clear hK K
              try simp only [Act.put, List.getElem_toArray, List.getElem_cons_zero, List.getElem_cons_succ, List.setIfInBounds_toArray, List.set_cons_zero, List.set_cons_succ]
              clear d0 d1 d2 d3 d4 d5 d6
              (try clear hHeld)
              refine wpTo_ready (rs := [14]) (by kernel_rfl) (by simp) ?_
              refine AllTo.cons (o := _) rfl (fun K hK => ?_) ?_
              · (try simp only [List.getElem_toArray, List.getElem_cons_zero, List.getElem_cons_succ])
                have p0 : u2.cell? ⟨G + 1, 0, none⟩ = some (.int .i64 0) := (K6 0 (by simp)).1
                have pf0 : u2.frozen? ⟨G + 1, 0, none⟩ = false := (K6 0 (by simp)).2
                have p1 : u2.cell? ⟨G + 1, 1, none⟩ = some (.int .i64 0) := (K6 1 (by simp)).1
                have pf1 : u2.frozen? ⟨G + 1, 1, none⟩ = false := (K6 1 (by simp)).2
                have p2 : u2.cell? ⟨G + 1, 2, none⟩ = some (.int .i64 0) := (K6 2 (by simp)).1
                have pf2 : u2.frozen? ⟨G + 1, 2, none⟩ = false := (K6 2 (by simp)).2
                have p3 : u2.cell? ⟨G + 1, 3, none⟩ = some (.int .i64 0) := (K6 3 (by simp)).1
                have pf3 : u2.frozen? ⟨G + 1, 3, none⟩ = false := (K6 3 (by simp)).2
                have p4 : u2.cell? ⟨G + 1, 4, none⟩ = some (.int .i64 0) := (K6 4 (by simp)).1
                have pf4 : u2.frozen? ⟨G + 1, 4, none⟩ = false := (K6 4 (by simp)).2
                have p5 : u2.cell? ⟨G + 1, 5, none⟩ = some (.int .i64 0) := (K6 5 (by simp)).1
                have pf5 : u2.frozen? ⟨G + 1, 5, none⟩ = false := (K6 5 (by simp)).2
                have p6 : u2.cell? ⟨G + 1, 6, none⟩ = some (.int .i64 0) := (K6 6 (by simp)).1
                have pf6 : u2.frozen? ⟨G + 1, 6, none⟩ = false := (K6 6 (by simp)).2
                go_simp
                refine hK.out _ _ (fun _ => (unhide KS) _ (fun b hb hgt => (heap_fill7 (by omega)).trans ((unhide KBu2) b hb hgt))) ?_
                clear hK K
                try simp only [Act.put, List.getElem_toArray, List.getElem_cons_zero, List.getElem_cons_succ, List.setIfInBounds_toArray, List.set_cons_zero, List.set_cons_succ]
                refine wpTo_done (by kernel_rfl) ?_ _
                refine NoPanic.normal ?_
                have K7 : Blk (((((((u2.setCell ⟨G + 1, 0, none⟩ (.int .i64 t.id)).setCell ⟨G + 1, 1, none⟩ (.int .i64 t.wd)).setCell ⟨G + 1, 2, none⟩ (.int .i64 t.ht)).setCell ⟨G + 1, 3, none⟩ (.int .i64 t.dp)).setCell ⟨G + 1, 4, none⟩ (.int .i64 t.tare)).setCell ⟨G + 1, 5, none⟩ (.int .i64 t.gram)).setCell ⟨G + 1, 6, none⟩ (.int .i64 t.cost)) (G + 1) [.int .i64 t.id, .int .i64 t.wd, .int .i64 t.ht, .int .i64 t.dp, .int .i64 t.tare, .int .i64 t.gram, .int .i64 t.cost] := Blk.fill7 K6
                have K8 : Blk (((((((u2.setCell ⟨G + 1, 0, none⟩ (.int .i64 t.id)).setCell ⟨G + 1, 1, none⟩ (.int .i64 t.wd)).setCell ⟨G + 1, 2, none⟩ (.int .i64 t.ht)).setCell ⟨G + 1, 3, none⟩ (.int .i64 t.dp)).setCell ⟨G + 1, 4, none⟩ (.int .i64 t.tare)).setCell ⟨G + 1, 5, none⟩ (.int .i64 t.gram)).setCell ⟨G + 1, 6, none⟩ (.int .i64 t.cost)) G [.int .i64 q.id, .int .i64 q.wd, .int .i64 q.ht, .int .i64 q.dp, .int .i64 q.gram, .int .i64 q.cls, .int .i64 q.cnt] := ((((((K5.other (by omega)).other (by omega)).other (by omega)).other (by omega)).other (by omega)).other (by omega)).other (by omega)
                have HB6 : Hid (Below w.heap.size w (((((((u2.setCell ⟨G + 1, 0, none⟩ (.int .i64 t.id)).setCell ⟨G + 1, 1, none⟩ (.int .i64 t.wd)).setCell ⟨G + 1, 2, none⟩ (.int .i64 t.ht)).setCell ⟨G + 1, 3, none⟩ (.int .i64 t.dp)).setCell ⟨G + 1, 4, none⟩ (.int .i64 t.tare)).setCell ⟨G + 1, 5, none⟩ (.int .i64 t.gram)).setCell ⟨G + 1, 6, none⟩ (.int .i64 t.cost))) := below_fill7 (unhide HB5) (by rw [← unhide HG]; omega)
                clear K5 K6 HB5 p0 pf0 p1 pf1 p2 pf2 p3 pf3 p4 pf4 p5 pf5 p6 pf6
                generalize (((((((u2.setCell ⟨G + 1, 0, none⟩ (.int .i64 t.id)).setCell ⟨G + 1, 1, none⟩ (.int .i64 t.wd)).setCell ⟨G + 1, 2, none⟩ (.int .i64 t.ht)).setCell ⟨G + 1, 3, none⟩ (.int .i64 t.dp)).setCell ⟨G + 1, 4, none⟩ (.int .i64 t.tare)).setCell ⟨G + 1, 5, none⟩ (.int .i64 t.gram)).setCell ⟨G + 1, 6, none⟩ (.int .i64 t.cost)) = u3 at *
                have r0 : u3.cell? ⟨G, 0, none⟩ = some (.int .i64 q.id) := (K8 0 (by simp)).1
                have r1 : u3.cell? ⟨G, 1, none⟩ = some (.int .i64 q.wd) := (K8 1 (by simp)).1
                have r2 : u3.cell? ⟨G, 2, none⟩ = some (.int .i64 q.ht) := (K8 2 (by simp)).1
                have r3 : u3.cell? ⟨G, 3, none⟩ = some (.int .i64 q.dp) := (K8 3 (by simp)).1
                have r4 : u3.cell? ⟨G, 4, none⟩ = some (.int .i64 q.gram) := (K8 4 (by simp)).1
                have r5 : u3.cell? ⟨G, 5, none⟩ = some (.int .i64 q.cls) := (K8 5 (by simp)).1
                have r6 : u3.cell? ⟨G, 6, none⟩ = some (.int .i64 q.cnt) := (K8 6 (by simp)).1
                have s0 : u3.cell? ⟨G + 1, 0, none⟩ = some (.int .i64 t.id) := (K7 0 (by simp)).1
                have s1 : u3.cell? ⟨G + 1, 1, none⟩ = some (.int .i64 t.wd) := (K7 1 (by simp)).1
                have s2 : u3.cell? ⟨G + 1, 2, none⟩ = some (.int .i64 t.ht) := (K7 2 (by simp)).1
                have s3 : u3.cell? ⟨G + 1, 3, none⟩ = some (.int .i64 t.dp) := (K7 3 (by simp)).1
                have s4 : u3.cell? ⟨G + 1, 4, none⟩ = some (.int .i64 t.tare) := (K7 4 (by simp)).1
                have s5 : u3.cell? ⟨G + 1, 5, none⟩ = some (.int .i64 t.gram) := (K7 5 (by simp)).1
                have s6 : u3.cell? ⟨G + 1, 6, none⟩ = some (.int .i64 t.cost) := (K7 6 (by simp)).1
                go_wp2
                refine bodyPost_ret (v := .tuple #[.agg #[.int .i64 q.id, .int .i64 q.wd, .int .i64 q.ht, .int .i64 q.dp, .int .i64 q.gram, .int .i64 q.cls, .int .i64 q.cnt], .agg #[.int .i64 t.id, .int .i64 t.wd, .int .i64 t.ht, .int .i64 t.dp, .int .i64 t.tare, .int .i64 t.gram, .int .i64 t.cost]]) (by simp [results, Try.results7, go_sem, r0, s0, r1, s1, r2, s2, r3, s3, r4, s4, r5, s5, r6, s6]) rfl ?_
                exact ⟨q, t, rfl, unhide HB6⟩
              exact AllTo.nil
            exact AllTo.nil
          exact AllTo.nil
        exact AllTo.nil
      exact AllTo.nil
    exact AllTo.nil
end Go.Proofs.Ytdkndgklokljnaa
