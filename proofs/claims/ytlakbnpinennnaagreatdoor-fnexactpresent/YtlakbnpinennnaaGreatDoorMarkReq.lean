/- The laws' marks over an order: three blocks turn, nothing else. -/
import Derived.Test.YtlakbnpinennnaaGreatDoorToOwn
import Derived.Test.YtlakbnpinennnaaGreatDoorBw
namespace Go.Proofs.YtlakbnpinennnaaGreatDoor
open Go.RowKit
set_option linter.unusedVariables false

/-- Three blocks have turned, one after the other. -/
def Turn3 (w w' : World) (a b c : Nat) : Prop := ∃ w1 w2, w.grownBy w1 (some a) ∧ w1.grownBy w2 (some b) ∧ w2.grownBy w' (some c)
theorem Turn3.size {w w' : World} {a b c : Nat} (h : Turn3 w w' a b c) : w.heap.size ≤ w'.heap.size := by
  obtain ⟨w1, w2, h1, h2, h3⟩ := h
  exact Nat.le_trans h1.size (Nat.le_trans h2.size h3.size)
theorem Turn3.below {W w w' : World} {a b c B : Nat} (h : Turn3 w w' a b c) (hb : Below B W w) (hB : B ≤ W.heap.size) (ha : B ≤ a) (hb' : B ≤ b) (hc : B ≤ c) : Below B W w' := by
  obtain ⟨w1, w2, h1, h2, h3⟩ := h
  have s := hb.size
  have k1 := hb.grown h1 (by omega) (fun k e => by injection e with e; omega)
  have k2 := k1.grown h2 (by have := h1.size; omega) (fun k e => by injection e with e; omega)
  exact k2.grown h3 (by have := h1.size; have := h2.size; omega) (fun k e => by injection e with e; omega)
theorem Turn3.own {w w' : World} {a b c : Nat} (h : Turn3 w w' a b c) {B e k g n cap : Nat} {L : List Value} (ho : w.ownsRow B e k (.slice (some ⟨g, 0, none⟩) n cap) n L) (ha : g ≠ a) (hb : g ≠ b) (hc : g ≠ c) : w'.ownsRow B e k (.slice (some ⟨g, 0, none⟩) n cap) n L := by
  obtain ⟨w1, w2, h1, h2, h3⟩ := h
  have f : ∀ x, g ≠ x → (some x ≠ (Value.slice (some ⟨g, 0, none⟩) n cap).ownBlock) := fun x hx e => by simp [Value.ownBlock] at e; exact hx e.symm
  exact ((ho.kept h1 (Or.inr (f a ha).symm)).kept h2 (Or.inr (f b hb).symm)).kept h3 (Or.inr (f c hc).symm)
theorem Turn3.blk {w w' : World} {a b c g : Nat} {cs : List Value} (h : Turn3 w w' a b c) (hB : Blk w g cs) (hg : g < w.heap.size) (ha : g ≠ a) (hb : g ≠ b) (hc : g ≠ c) : Blk w' g cs := by
  obtain ⟨w1, w2, h1, h2, h3⟩ := h
  have f : ∀ {u u' : World} {x : Nat}, u.grownBy u' (some x) → g < u.heap.size → g ≠ x → Blk u g cs → Blk u' g cs := fun hg' hl hx hB i hi =>
    ⟨(World.cell?_of_block (hg'.block g hl (by intro e; cases e; exact hx rfl))).trans (hB i hi).1, (World.frozen?_of_block (hg'.block g hl (by intro e; cases e; exact hx rfl))).trans (hB i hi).2⟩
  exact f h3 (Nat.lt_of_lt_of_le hg (Nat.le_trans h1.size h2.size)) hc (f h2 (Nat.lt_of_lt_of_le hg h1.size) hb (f h1 hg ha hB))

set_option maxHeartbeats 2000000 in
theorem markPairS_all (base g n cap k0 : Nat) (L : List Value) (w : World) (hown : w.ownsRow base 98 2 (.slice (some ⟨g, 0, none⟩) n cap) n L) (hn : n ≤ 1048577) (hk1 : k0 ≤ 100000000) :
    Calls Tryz.prog 64 #[.slice (some ⟨g, 0, none⟩) n cap, .int .i64 (k0 : Int)] w fun e w' => e = .returned (.int .i64 ((k0 + 2 * n : Nat) : Int)) ∧ w.grownBy w' (some g) := by
  go_enter Tryz.func64, Tryz.ntmps64
  go_wp2
  go_loopw [1, 5] (fun t i wr => ∃ (k : Nat) (L : List Value), k ≤ n ∧ i = .int .i64 (k : Int) ∧ t = .int .i64 ((k0 : Int) + 2 * k) ∧ wr.ownsRow base 98 2 (.slice (some ⟨g, 0, none⟩) n cap) n L ∧ w.grownBy wr (some g)) (fun _ i _ => n - (intOf i).toNat)
  case atStart => exact ⟨0, L, Nat.zero_le _, rfl, by go_num, hown, World.grownBy.refl _ _⟩
  case round =>
    obtain ⟨k, L, hk, rfl, rfl, how, hgb⟩ := hrel
    by_cases hlt : k < n
    · obtain ⟨u0, e0, t0⟩ := row_at (j := 0) how.1 hlt (by omega)
      have f0 : wr.cell? ⟨g, k * 2, none⟩ = some u0 := (how.cellAt _ t0).trans e0
      have z0 : wr.frozen? ⟨g, k * 2, none⟩ = false := how.frozenAt (k * 2)
      obtain ⟨u1, e1, t1⟩ := row_at (j := 1) how.1 hlt (by omega)
      have f1 : wr.cell? ⟨g, k * 2 + 1, none⟩ = some u1 := (how.cellAt _ t1).trans e1
      have z1 : wr.frozen? ⟨g, k * 2 + 1, none⟩ = false := how.frozenAt (k * 2 + 1)
      have HO := hide (((how.stored (k * 2) (.int .i64 ((k0 : Int) + 2 * k))).1.stored (k * 2 + 1) (.int .i64 ((k0 : Int) + 2 * k + 1))).1)
      have HG := hide (gb_set (gb_set hgb (k * 2) (.int .i64 ((k0 : Int) + 2 * k))) (k * 2 + 1) (.int .i64 ((k0 : Int) + 2 * k + 1)))
      clear how hgb hown e0 t0 e1 t1
      go_wp2
      go_roundw
      case rel => exact ⟨k + 1, _, by omega, by go_num, by go_num, unhide HO, unhide HG⟩
      case measure => simp [intOf]; omega
    · obtain rfl : k = n := by omega
      have HG := hide hgb
      clear hown how hgb
      go_wp2
      go_ret
      exact ⟨ret_num (by omega), unhide HG⟩
set_option maxHeartbeats 2000000 in
theorem markTypeS_all (base g n cap k0 : Nat) (L : List Value) (w : World) (hown : w.ownsRow base 69 7 (.slice (some ⟨g, 0, none⟩) n cap) n L) (hn : n ≤ 1048577) (hk1 : k0 ≤ 100000000) :
    Calls Tryz.prog 65 #[.slice (some ⟨g, 0, none⟩) n cap, .int .i64 (k0 : Int)] w fun e w' => e = .returned (.int .i64 ((k0 + 7 * n : Nat) : Int)) ∧ w.grownBy w' (some g) := by
  go_enter Tryz.func65, Tryz.ntmps65
  go_wp2
  go_loopw [1, 5] (fun t i wr => ∃ (k : Nat) (L : List Value), k ≤ n ∧ i = .int .i64 (k : Int) ∧ t = .int .i64 ((k0 : Int) + 7 * k) ∧ wr.ownsRow base 69 7 (.slice (some ⟨g, 0, none⟩) n cap) n L ∧ w.grownBy wr (some g)) (fun _ i _ => n - (intOf i).toNat)
  case atStart => exact ⟨0, L, Nat.zero_le _, rfl, by go_num, hown, World.grownBy.refl _ _⟩
  case round =>
    obtain ⟨k, L, hk, rfl, rfl, how, hgb⟩ := hrel
    by_cases hlt : k < n
    · obtain ⟨u0, e0, t0⟩ := row_at (j := 0) how.1 hlt (by omega)
      have f0 : wr.cell? ⟨g, k * 7, none⟩ = some u0 := (how.cellAt _ t0).trans e0
      have z0 : wr.frozen? ⟨g, k * 7, none⟩ = false := how.frozenAt (k * 7)
      obtain ⟨u1, e1, t1⟩ := row_at (j := 1) how.1 hlt (by omega)
      have f1 : wr.cell? ⟨g, k * 7 + 1, none⟩ = some u1 := (how.cellAt _ t1).trans e1
      have z1 : wr.frozen? ⟨g, k * 7 + 1, none⟩ = false := how.frozenAt (k * 7 + 1)
      obtain ⟨u2, e2, t2⟩ := row_at (j := 2) how.1 hlt (by omega)
      have f2 : wr.cell? ⟨g, k * 7 + 2, none⟩ = some u2 := (how.cellAt _ t2).trans e2
      have z2 : wr.frozen? ⟨g, k * 7 + 2, none⟩ = false := how.frozenAt (k * 7 + 2)
      obtain ⟨u3, e3, t3⟩ := row_at (j := 3) how.1 hlt (by omega)
      have f3 : wr.cell? ⟨g, k * 7 + 3, none⟩ = some u3 := (how.cellAt _ t3).trans e3
      have z3 : wr.frozen? ⟨g, k * 7 + 3, none⟩ = false := how.frozenAt (k * 7 + 3)
      obtain ⟨u4, e4, t4⟩ := row_at (j := 4) how.1 hlt (by omega)
      have f4 : wr.cell? ⟨g, k * 7 + 4, none⟩ = some u4 := (how.cellAt _ t4).trans e4
      have z4 : wr.frozen? ⟨g, k * 7 + 4, none⟩ = false := how.frozenAt (k * 7 + 4)
      obtain ⟨u5, e5, t5⟩ := row_at (j := 5) how.1 hlt (by omega)
      have f5 : wr.cell? ⟨g, k * 7 + 5, none⟩ = some u5 := (how.cellAt _ t5).trans e5
      have z5 : wr.frozen? ⟨g, k * 7 + 5, none⟩ = false := how.frozenAt (k * 7 + 5)
      obtain ⟨u6, e6, t6⟩ := row_at (j := 6) how.1 hlt (by omega)
      have f6 : wr.cell? ⟨g, k * 7 + 6, none⟩ = some u6 := (how.cellAt _ t6).trans e6
      have z6 : wr.frozen? ⟨g, k * 7 + 6, none⟩ = false := how.frozenAt (k * 7 + 6)
      have HO := hide ((((((((how.stored (k * 7) (.int .i64 ((k0 : Int) + 7 * k))).1.stored (k * 7 + 1) (.int .i64 ((k0 : Int) + 7 * k + 1))).1.stored (k * 7 + 2) (.int .i64 ((k0 : Int) + 7 * k + 1 + 1))).1.stored (k * 7 + 3) (.int .i64 ((k0 : Int) + 7 * k + 1 + 1 + 1))).1.stored (k * 7 + 4) (.int .i64 ((k0 : Int) + 7 * k + 1 + 1 + 1 + 1))).1.stored (k * 7 + 5) (.int .i64 ((k0 : Int) + 7 * k + 1 + 1 + 1 + 1 + 1))).1.stored (k * 7 + 6) (.int .i64 ((k0 : Int) + 7 * k + 1 + 1 + 1 + 1 + 1 + 1))).1)
      have HG := hide (gb_set (gb_set (gb_set (gb_set (gb_set (gb_set (gb_set hgb (k * 7) (.int .i64 ((k0 : Int) + 7 * k))) (k * 7 + 1) (.int .i64 ((k0 : Int) + 7 * k + 1))) (k * 7 + 2) (.int .i64 ((k0 : Int) + 7 * k + 1 + 1))) (k * 7 + 3) (.int .i64 ((k0 : Int) + 7 * k + 1 + 1 + 1))) (k * 7 + 4) (.int .i64 ((k0 : Int) + 7 * k + 1 + 1 + 1 + 1))) (k * 7 + 5) (.int .i64 ((k0 : Int) + 7 * k + 1 + 1 + 1 + 1 + 1))) (k * 7 + 6) (.int .i64 ((k0 : Int) + 7 * k + 1 + 1 + 1 + 1 + 1 + 1)))
      clear how hgb hown e0 t0 e1 t1 e2 t2 e3 t3 e4 t4 e5 t5 e6 t6
      go_wp2
      go_roundw
      case rel => exact ⟨k + 1, _, by omega, by go_num, by go_num, unhide HO, unhide HG⟩
      case measure => simp [intOf]; omega
    · obtain rfl : k = n := by omega
      have HG := hide hgb
      clear hown how hgb
      go_wp2
      go_ret
      exact ⟨ret_num (by omega), unhide HG⟩
set_option maxHeartbeats 2000000 in
theorem markItemS_all (base g n cap k0 : Nat) (L : List Value) (w : World) (hown : w.ownsRow base 43 7 (.slice (some ⟨g, 0, none⟩) n cap) n L) (hn : n ≤ 1048577) (hk1 : k0 ≤ 100000000) :
    Calls Tryz.prog 66 #[.slice (some ⟨g, 0, none⟩) n cap, .int .i64 (k0 : Int)] w fun e w' => e = .returned (.int .i64 ((k0 + 7 * n : Nat) : Int)) ∧ w.grownBy w' (some g) := by
  go_enter Tryz.func66, Tryz.ntmps66
  go_wp2
  go_loopw [1, 5] (fun t i wr => ∃ (k : Nat) (L : List Value), k ≤ n ∧ i = .int .i64 (k : Int) ∧ t = .int .i64 ((k0 : Int) + 7 * k) ∧ wr.ownsRow base 43 7 (.slice (some ⟨g, 0, none⟩) n cap) n L ∧ w.grownBy wr (some g)) (fun _ i _ => n - (intOf i).toNat)
  case atStart => exact ⟨0, L, Nat.zero_le _, rfl, by go_num, hown, World.grownBy.refl _ _⟩
  case round =>
    obtain ⟨k, L, hk, rfl, rfl, how, hgb⟩ := hrel
    by_cases hlt : k < n
    · obtain ⟨u0, e0, t0⟩ := row_at (j := 0) how.1 hlt (by omega)
      have f0 : wr.cell? ⟨g, k * 7, none⟩ = some u0 := (how.cellAt _ t0).trans e0
      have z0 : wr.frozen? ⟨g, k * 7, none⟩ = false := how.frozenAt (k * 7)
      obtain ⟨u1, e1, t1⟩ := row_at (j := 1) how.1 hlt (by omega)
      have f1 : wr.cell? ⟨g, k * 7 + 1, none⟩ = some u1 := (how.cellAt _ t1).trans e1
      have z1 : wr.frozen? ⟨g, k * 7 + 1, none⟩ = false := how.frozenAt (k * 7 + 1)
      obtain ⟨u2, e2, t2⟩ := row_at (j := 2) how.1 hlt (by omega)
      have f2 : wr.cell? ⟨g, k * 7 + 2, none⟩ = some u2 := (how.cellAt _ t2).trans e2
      have z2 : wr.frozen? ⟨g, k * 7 + 2, none⟩ = false := how.frozenAt (k * 7 + 2)
      obtain ⟨u3, e3, t3⟩ := row_at (j := 3) how.1 hlt (by omega)
      have f3 : wr.cell? ⟨g, k * 7 + 3, none⟩ = some u3 := (how.cellAt _ t3).trans e3
      have z3 : wr.frozen? ⟨g, k * 7 + 3, none⟩ = false := how.frozenAt (k * 7 + 3)
      obtain ⟨u4, e4, t4⟩ := row_at (j := 4) how.1 hlt (by omega)
      have f4 : wr.cell? ⟨g, k * 7 + 4, none⟩ = some u4 := (how.cellAt _ t4).trans e4
      have z4 : wr.frozen? ⟨g, k * 7 + 4, none⟩ = false := how.frozenAt (k * 7 + 4)
      obtain ⟨u5, e5, t5⟩ := row_at (j := 5) how.1 hlt (by omega)
      have f5 : wr.cell? ⟨g, k * 7 + 5, none⟩ = some u5 := (how.cellAt _ t5).trans e5
      have z5 : wr.frozen? ⟨g, k * 7 + 5, none⟩ = false := how.frozenAt (k * 7 + 5)
      obtain ⟨u6, e6, t6⟩ := row_at (j := 6) how.1 hlt (by omega)
      have f6 : wr.cell? ⟨g, k * 7 + 6, none⟩ = some u6 := (how.cellAt _ t6).trans e6
      have z6 : wr.frozen? ⟨g, k * 7 + 6, none⟩ = false := how.frozenAt (k * 7 + 6)
      have HO := hide ((((((((how.stored (k * 7) (.int .i64 ((k0 : Int) + 7 * k))).1.stored (k * 7 + 1) (.int .i64 ((k0 : Int) + 7 * k + 1))).1.stored (k * 7 + 2) (.int .i64 ((k0 : Int) + 7 * k + 1 + 1))).1.stored (k * 7 + 3) (.int .i64 ((k0 : Int) + 7 * k + 1 + 1 + 1))).1.stored (k * 7 + 4) (.int .i64 ((k0 : Int) + 7 * k + 1 + 1 + 1 + 1))).1.stored (k * 7 + 5) (.int .i64 ((k0 : Int) + 7 * k + 1 + 1 + 1 + 1 + 1))).1.stored (k * 7 + 6) (.int .i64 ((k0 : Int) + 7 * k + 1 + 1 + 1 + 1 + 1 + 1))).1)
      have HG := hide (gb_set (gb_set (gb_set (gb_set (gb_set (gb_set (gb_set hgb (k * 7) (.int .i64 ((k0 : Int) + 7 * k))) (k * 7 + 1) (.int .i64 ((k0 : Int) + 7 * k + 1))) (k * 7 + 2) (.int .i64 ((k0 : Int) + 7 * k + 1 + 1))) (k * 7 + 3) (.int .i64 ((k0 : Int) + 7 * k + 1 + 1 + 1))) (k * 7 + 4) (.int .i64 ((k0 : Int) + 7 * k + 1 + 1 + 1 + 1))) (k * 7 + 5) (.int .i64 ((k0 : Int) + 7 * k + 1 + 1 + 1 + 1 + 1))) (k * 7 + 6) (.int .i64 ((k0 : Int) + 7 * k + 1 + 1 + 1 + 1 + 1 + 1)))
      clear how hgb hown e0 t0 e1 t1 e2 t2 e3 t3 e4 t4 e5 t5 e6 t6
      go_wp2
      go_roundw
      case rel => exact ⟨k + 1, _, by omega, by go_num, by go_num, unhide HO, unhide HG⟩
      case measure => simp [intOf]; omega
    · obtain rfl : k = n := by omega
      have HG := hide hgb
      clear hown how hgb
      go_wp2
      go_ret
      exact ⟨ret_num (by omega), unhide HG⟩
set_option maxHeartbeats 2000000 in
theorem markRequest_any (B : Nat) (r : ReqV) (h : ReqH) (gp gt gi k0 : Nat) (w : World) (ho : OwnReq w B r h gp gt gi) (hs : r.small) (hk : k0 ≤ 1000) :
    Calls Tryz.prog 29 #[reqVal r h, .int .i64 (k0 : Int)] w fun e w' => ∃ k : Nat, e = .returned (.int .i64 (k : Int)) ∧ k ≤ 100000000 ∧ Turn3 w w' gp gt gi := by
  obtain ⟨rfl, h1, h2, h3, h4, ⟨L1, o1⟩, ⟨L2, o2⟩, ⟨L3, o3⟩⟩ := ho
  unfold ReqV.small at hs
  unfold reqVal
  dsimp only
  have O1 := hide o1
  have O2 := hide o2
  have O3 := hide o3
  clear o1 o2 o3
  go_enter Tryz.func29, Tryz.ntmps29
  go_wp2_with fail
  have hc := Blk.allocAt (w := w) (t := 30) (reqCells r ⟨some ⟨gp, 0, none⟩, some ⟨gt, 0, none⟩, some ⟨gi, 0, none⟩, r.pairs.length, r.types.length, r.items.length⟩) rfl
  have hb : Below w.heap.size w (w.alloc (.cells (reqCells r ⟨some ⟨gp, 0, none⟩, some ⟨gt, 0, none⟩, some ⟨gi, 0, none⟩, r.pairs.length, r.types.length, r.items.length⟩).toArray 30)) := (Below.refl _ _).alloc (Nat.le_refl _) _
  have hgr : w.grownBy (w.alloc (.cells (reqCells r ⟨some ⟨gp, 0, none⟩, some ⟨gt, 0, none⟩, some ⟨gi, 0, none⟩, r.pairs.length, r.types.length, r.items.length⟩).toArray 30)) none := World.grownBy_alloc w _ none
  have hz : w.heap.size < (w.alloc (.cells (reqCells r ⟨some ⟨gp, 0, none⟩, some ⟨gt, 0, none⟩, some ⟨gi, 0, none⟩, r.pairs.length, r.types.length, r.items.length⟩).toArray 30)).heap.size := by simp
  unfold reqCells at hc hb hgr hz
  dsimp only at hc hb hgr hz
  generalize (w.alloc (.cells [Value.int .i64 r.way, .int .i64 r.pal.wd, .int .i64 r.pal.dp, .int .i64 r.pal.ht, .int .i64 r.pal.gram, .int .i64 r.classes, .slice (some ⟨gp, 0, none⟩) r.pairs.length r.pairs.length, .slice (some ⟨gt, 0, none⟩) r.types.length r.types.length, .int .i64 r.master, .slice (some ⟨gi, 0, none⟩) r.items.length r.items.length].toArray 30)) = w1 at *
  have HC := hide hc
  have P1 := hide (own_later (unhide O1) hb)
  have P2 := hide (own_later (unhide O2) hb)
  have P3 := hide (own_later (unhide O3) hb)
  have GR := hide hgr
  have c6 : w1.cell? ⟨w.heap.size, 6, none⟩ = some (.slice (some ⟨gp, 0, none⟩) r.pairs.length r.pairs.length) := ((unhide HC) 6 (by simp)).1
  clear hc hb hgr O1 O2 O3
  refine (markPairS_all 0 gp _ _ k0 L1 w1 (unhide P1) (by omega) (by omega)).mono ?_
  rintro e w2 ⟨rfl, hg2⟩
  clear c6
  have C2 : Hid (Blk w2 w.heap.size _) := Blk.gb (unhide HC) hg2 hz (by omega)
  have P2' := hide ((unhide P2).kept hg2 (Or.inr (by intro e; simp [Value.ownBlock] at e; omega)))
  have P3' := hide ((unhide P3).kept hg2 (Or.inr (by intro e; simp [Value.ownBlock] at e; omega)))
  have G2 := hide hg2
  have z2 := Nat.lt_of_lt_of_le hz hg2.size
  have c7 : w2.cell? ⟨w.heap.size, 7, none⟩ = some (.slice (some ⟨gt, 0, none⟩) r.types.length r.types.length) := ((unhide C2) 7 (by simp)).1
  generalize hk1 : k0 + 2 * r.pairs.length = k1
  have HK1 : k1 ≤ 3000000 := by omega
  clear hg2 HC P1 P2 P3 hk1
  go_wp2_with fail
  refine (markTypeS_all 0 gt _ _ k1 L2 w2 (unhide P2') (by omega) (by omega)).mono ?_
  rintro e w3 ⟨rfl, hg3⟩
  clear c7
  have C3 : Hid (Blk w3 w.heap.size _) := Blk.gb (unhide C2) hg3 z2 (by omega)
  have P3'' := hide ((unhide P3').kept hg3 (Or.inr (by intro e; simp [Value.ownBlock] at e; omega)))
  have G3 := hide hg3
  have c9 : w3.cell? ⟨w.heap.size, 9, none⟩ = some (.slice (some ⟨gi, 0, none⟩) r.items.length r.items.length) := ((unhide C3) 9 (by simp)).1
  generalize hk2 : k1 + 7 * r.types.length = k2
  have HK2 : k2 ≤ 20000000 := by omega
  clear hg3 C2 P2' P3' hk2 HK1
  go_wp2_with fail
  refine (markItemS_all 0 gi _ _ k2 L3 w3 (unhide P3'') (by omega) (by omega)).mono ?_
  rintro e w4 ⟨rfl, hg4⟩
  have G4 := hide hg4
  have HK3 : k2 + 7 * r.items.length ≤ 100000000 := by omega
  generalize k2 + 7 * r.items.length = k3 at HK3 ⊢
  clear hg4 c9 C3 P3''
  go_wp2_with fail
  go_ret
  refine ⟨k3, rfl, HK3, w2, w3, ?_, unhide G3, unhide G4⟩
  have g1 := unhide GR
  have g2 := unhide G2
  exact ⟨g2.os.trans g1.os, g2.tape.trans g1.tape, g2.output.trans g1.output, Nat.le_trans g1.size g2.size, fun k hk hne => (g2.block k (Nat.lt_of_lt_of_le hk g1.size) hne).trans (g1.block k hk (by simp))⟩
end Go.Proofs.YtlakbnpinennnaaGreatDoor
