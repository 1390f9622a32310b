/- The program's Class. -/
import Derived.Test.YtlakbnpinennnaaGreatDoorClassIds
namespace Go.Proofs.YtlakbnpinennnaaGreatDoor
open Go.RowKit
set_option linter.unusedVariables false
set_option linter.unusedSimpArgs false

theorem kinds_no1 {r : ReqV} (h : r.items.all (kindItem r.classes) = false) : kindsB r = false := by simp [kindsB, h]
theorem kinds_no2 {r : ReqV} (h : r.pairs.all (kindPair r.classes) = false) : kindsB r = false := by simp [kindsB, h]
theorem kinds_yes {r : ReqV} (h1 : r.items.all (kindItem r.classes) = true) (h : r.pairs.all (kindPair r.classes) = true) : kindsB r = true := by simp [kindsB, h, h1]
set_option maxHeartbeats 2000000 in
theorem kindsOk_any (r : ReqV) (h : ReqH) (w : World) (hr : RdReq w r h) (hs : r.small) :
    Calls Tryz.prog 139 #[reqVal r h] w fun e w' => e = .returned (.bool (kindsB r)) ∧ Below w.heap.size w w' := by
  unfold ReqV.small at hs
  unfold reqVal
  obtain ⟨hp0, _, hi0⟩ := hr
  generalize h.ai = ia at *
  generalize h.ap = pa at *
  go_enter Tryz.func139, Tryz.ntmps139
  go_wp2
  have HX : Blk (w.alloc (.cells #[.int .i64 r.way, .int .i64 r.pal.wd, .int .i64 r.pal.dp, .int .i64 r.pal.ht, .int .i64 r.pal.gram, .int .i64 r.classes, .slice pa r.pairs.length h.cp, .slice h.at' r.types.length h.ct, .int .i64 r.master, .slice ia r.items.length h.ci] 30)) w.heap.size [.int .i64 r.way, .int .i64 r.pal.wd, .int .i64 r.pal.dp, .int .i64 r.pal.ht, .int .i64 r.pal.gram, .int .i64 r.classes, .slice pa r.pairs.length h.cp, .slice h.at' r.types.length h.ct, .int .i64 r.master, .slice ia r.items.length h.ci] := Blk.allocAt [.int .i64 r.way, .int .i64 r.pal.wd, .int .i64 r.pal.dp, .int .i64 r.pal.ht, .int .i64 r.pal.gram, .int .i64 r.classes, .slice pa r.pairs.length h.cp, .slice h.at' r.types.length h.ct, .int .i64 r.master, .slice ia r.items.length h.ci] rfl
  have HB : Below w.heap.size w (w.alloc (.cells #[.int .i64 r.way, .int .i64 r.pal.wd, .int .i64 r.pal.dp, .int .i64 r.pal.ht, .int .i64 r.pal.gram, .int .i64 r.classes, .slice pa r.pairs.length h.cp, .slice h.at' r.types.length h.ct, .int .i64 r.master, .slice ia r.items.length h.ci] 30)) := (Below.refl w.heap.size w).alloc (Nat.le_refl _) _
  have lt0 : w.heap.size < (w.alloc (.cells #[.int .i64 r.way, .int .i64 r.pal.wd, .int .i64 r.pal.dp, .int .i64 r.pal.ht, .int .i64 r.pal.gram, .int .i64 r.classes, .slice pa r.pairs.length h.cp, .slice h.at' r.types.length h.ct, .int .i64 r.master, .slice ia r.items.length h.ci] 30)).heap.size := by simp
  have HI : Hid (RdR ItemV.cells 7 (w.alloc (.cells #[.int .i64 r.way, .int .i64 r.pal.wd, .int .i64 r.pal.dp, .int .i64 r.pal.ht, .int .i64 r.pal.gram, .int .i64 r.classes, .slice pa r.pairs.length h.cp, .slice h.at' r.types.length h.ct, .int .i64 r.master, .slice ia r.items.length h.ci] 30)) ia r.items.length r.items) := hi0.mono (by omega) ItemV.len HB
  have HP : Hid (RdR PairV.cells 2 (w.alloc (.cells #[.int .i64 r.way, .int .i64 r.pal.wd, .int .i64 r.pal.dp, .int .i64 r.pal.ht, .int .i64 r.pal.gram, .int .i64 r.classes, .slice pa r.pairs.length h.cp, .slice h.at' r.types.length h.ct, .int .i64 r.master, .slice ia r.items.length h.ci] 30)) pa r.pairs.length r.pairs) := hp0.mono (by omega) PairV.len HB
  generalize (w.alloc (.cells #[.int .i64 r.way, .int .i64 r.pal.wd, .int .i64 r.pal.dp, .int .i64 r.pal.ht, .int .i64 r.pal.gram, .int .i64 r.classes, .slice pa r.pairs.length h.cp, .slice h.at' r.types.length h.ct, .int .i64 r.master, .slice ia r.items.length h.ci] 30)) = W at *
  obtain ⟨G, hG⟩ : ∃ G, G = w.heap.size := ⟨_, rfl⟩
  rw [← hG] at HX lt0 ⊢
  have HG := hide hG
  have HBH := hide HB
  have HXX := hide HX
  clear hG HB HX hp0 hi0
  go_loopw [10] (fun i wr => ∃ k : Nat, k ≤ r.items.length ∧ i = .int .i64 (k : Int) ∧ (r.items.take k).all (kindItem r.classes) = true ∧ Below W.heap.size W wr) (fun i _ => r.items.length - (intOf i).toNat)
  case atStart => exact ⟨0, Nat.zero_le _, rfl, rfl, Below.refl _ _⟩
  case round =>
    obtain ⟨k, hk, rfl, hall, hb⟩ := hrel
    have A1 := Blk.below hb lt0 (unhide HXX)
    have a5 : wr.cell? ⟨G, 5, none⟩ = some (.int .i64 r.classes) := (A1 5 (by simp)).1
    have a6 : wr.cell? ⟨G, 6, none⟩ = some (.slice pa r.pairs.length h.cp) := (A1 6 (by simp)).1
    have z0 : G < wr.heap.size := Nat.lt_of_lt_of_le lt0 hb.size
    have HBB := hide hb
    have HA := hide hall
    by_cases hlt : k < r.items.length
    · obtain ⟨b, off, rfl, hc⟩ := (unhide HI).2 k hlt
      have HST := hide (all_step (kindItem r.classes) r.items k hlt hall)
      have HFE := hide (all_fell (kindItem r.classes) r.items k hlt)
      generalize r.items.getD k default = q at hc HST HFE
      have d0 : wr.cell? ⟨b, off + k * 7, none⟩ = some (.int .i64 q.id) := (hb.cell (World.block_lt_of_cell? _ _ (hc 0 (by omega)))).trans (hc 0 (by omega))
      have d1 : wr.cell? ⟨b, off + k * 7 + 1, none⟩ = some (.int .i64 q.wd) := (hb.cell (World.block_lt_of_cell? _ _ (hc 1 (by omega)))).trans (hc 1 (by omega))
      have d2 : wr.cell? ⟨b, off + k * 7 + 2, none⟩ = some (.int .i64 q.ht) := (hb.cell (World.block_lt_of_cell? _ _ (hc 2 (by omega)))).trans (hc 2 (by omega))
      have d3 : wr.cell? ⟨b, off + k * 7 + 3, none⟩ = some (.int .i64 q.dp) := (hb.cell (World.block_lt_of_cell? _ _ (hc 3 (by omega)))).trans (hc 3 (by omega))
      have d4 : wr.cell? ⟨b, off + k * 7 + 4, none⟩ = some (.int .i64 q.gram) := (hb.cell (World.block_lt_of_cell? _ _ (hc 4 (by omega)))).trans (hc 4 (by omega))
      have d5 : wr.cell? ⟨b, off + k * 7 + 5, none⟩ = some (.int .i64 q.cls) := (hb.cell (World.block_lt_of_cell? _ _ (hc 5 (by omega)))).trans (hc 5 (by omega))
      have d6 : wr.cell? ⟨b, off + k * 7 + 6, none⟩ = some (.int .i64 q.cnt) := (hb.cell (World.block_lt_of_cell? _ _ (hc 6 (by omega)))).trans (hc 6 (by omega))
      clear hc hb hall A1
      by_cases hge : r.classes ≤ q.cls
      · have HF := hide ((unhide HFE) (by unfold kindItem; simp; omega))
        go_wp2
        go_ret
        exact ⟨ret_bool (kinds_no1 (unhide HF)).symm, (unhide HBH).trans ((bw_alloc (unhide HBB) _).mono (unhide HBH).size)⟩
      · have HF := hide ((unhide HST) (by unfold kindItem; simp; omega))
        go_wp2
        go_roundw
        case rel => exact ⟨k + 1, by omega, by go_num, unhide HF, bw_alloc (unhide HBB) _⟩
        case measure => simp [intOf]; omega
    · have HIA := hide (all_whole (kindItem r.classes) r.items k (by omega) hall)
      clear hb hall HA HI
      obtain ⟨wo, rfl⟩ : ∃ wo : World, wo = wr := ⟨_, rfl⟩
      go_wp2
      go_loopw [23] (fun i wq => ∃ k : Nat, k ≤ r.pairs.length ∧ i = .int .i64 (k : Int) ∧ (r.pairs.take k).all (kindPair r.classes) = true ∧ Below W.heap.size W wq) (fun i _ => r.pairs.length - (intOf i).toNat)
      case atStart => exact ⟨0, Nat.zero_le _, rfl, rfl, unhide HBB⟩
      case round =>
        clear A1 a5 a6 z0
        obtain ⟨j, hj, rfl, hall, hb⟩ := hrel
        have A1 := Blk.below hb lt0 (unhide HXX)
        have a5 : wr.cell? ⟨G, 5, none⟩ = some (.int .i64 r.classes) := (A1 5 (by simp)).1
        have z2 : G < wr.heap.size := Nat.lt_of_lt_of_le lt0 hb.size
        have HB2 := hide hb
        by_cases hlt2 : j < r.pairs.length
        · obtain ⟨b, off, rfl, hc⟩ := (unhide HP).2 j hlt2
          have HST := hide (all_step (kindPair r.classes) r.pairs j hlt2 hall)
          have HFE := hide (all_fell (kindPair r.classes) r.pairs j hlt2)
          generalize r.pairs.getD j default = q at hc HST HFE
          have d0 : wr.cell? ⟨b, off + j * 2, none⟩ = some (.int .i64 q.a) := (hb.cell (World.block_lt_of_cell? _ _ (hc 0 (by omega)))).trans (hc 0 (by omega))
          have d1 : wr.cell? ⟨b, off + j * 2 + 1, none⟩ = some (.int .i64 q.b) := (hb.cell (World.block_lt_of_cell? _ _ (hc 1 (by omega)))).trans (hc 1 (by omega))
          clear hc hb hall A1
          by_cases hge : r.classes ≤ q.a
          · have HF := hide ((unhide HFE) (by unfold kindPair; simp; omega))
            go_wp2
            go_ret
            exact ⟨ret_bool (kinds_no2 (unhide HF)).symm, (unhide HBH).trans ((bw_alloc (unhide HB2) _).mono (unhide HBH).size)⟩
          by_cases hge2 : r.classes ≤ q.b
          · have HF := hide ((unhide HFE) (by unfold kindPair; simp; omega))
            go_wp2
            go_ret
            exact ⟨ret_bool (kinds_no2 (unhide HF)).symm, (unhide HBH).trans ((bw_alloc (unhide HB2) _).mono (unhide HBH).size)⟩
          · have HF := hide ((unhide HST) (by unfold kindPair; simp; omega))
            go_wp2
            go_roundw
            case rel => exact ⟨j + 1, by omega, by go_num, unhide HF, bw_alloc (unhide HB2) _⟩
            case measure => simp [intOf]; omega
        · have HPA := hide (all_whole (kindPair r.classes) r.pairs j (by omega) hall)
          go_wp2
          go_ret
          exact ⟨ret_bool (kinds_yes (unhide HIA) (unhide HPA)).symm, (unhide HBH).trans (hb.mono (unhide HBH).size)⟩
theorem stands_eq (p : PalletV) (t : TypeV) (a b c d : Bool) (h1 : decide (t.wd ≤ p.wd) = a) (h2 : decide (t.dp ≤ p.dp) = b) (h3 : decide (t.ht ≤ p.ht) = c) (h4 : decide (t.tare + t.gram ≤ p.gram) = d) : standsB p t = (a && b && c && d) := by
  rw [standsB, h1, h2, h3, h4]
set_option maxHeartbeats 1600000 in
theorem standsOn_any (p : PalletV) (t : TypeV) (w : World) (h1 : 0 ≤ t.tare) (h2 : t.tare ≤ 100000) (h3 : 1 ≤ t.gram) (h4 : t.gram ≤ 100000) :
    Calls Tryz.prog 144 #[.agg #[.int .i64 t.id, .int .i64 t.wd, .int .i64 t.ht, .int .i64 t.dp, .int .i64 t.tare, .int .i64 t.gram, .int .i64 t.cost], .agg #[.int .i64 p.wd, .int .i64 p.dp, .int .i64 p.ht, .int .i64 p.gram]] w fun e w' => e = .returned (.bool (standsB p t)) ∧ Below w.heap.size w w' := by
  have HF := hide (stands_eq p t)
  cases d0 : decide (t.wd ≤ p.wd) <;> cases d1 : decide (t.dp ≤ p.dp) <;> cases d2 : decide (t.ht ≤ p.ht)
  all_goals
    have e0 := (unhide HF) _ _ _ _ d0 d1 d2 rfl
    have HE := hide e0
    clear e0 HF
    go_enter Tryz.func144, Tryz.ntmps144
    go_wp2
    go_ret
    refine ⟨ret_boolF ?_, ((Below.refl w.heap.size w).alloc (Nat.le_refl _) _).alloc (by simp) _⟩
    rw [unhide HE]
    simp
end Go.Proofs.YtlakbnpinennnaaGreatDoor
