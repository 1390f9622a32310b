/- A shelf's two methods: is there room; a box is put onto it. -/
import Derived.Test.YtcblpoeeembniaaShelfPlain
import Derived.Test.YtcblpoeeembniaaAppendSome
import Derived.Deep.AppendLies
import Derived.Deep.DeepMust
import Derived.Deep.DeepCutAuto
namespace Go.Proofs.Ytcblpoeeembniaa
open Go Go.RowKit
set_option linter.unusedVariables false
set_option linter.unusedSimpArgs false
set_option maxRecDepth 100000 in
set_option maxHeartbeats 4000000 in
theorem hasRoom_any (p : PalletV) (s : ShelfV) (b : BoxV) (g q : Nat) (w : World) (h1 : w.cell? ⟨g, q + 1, none⟩ = some (.int .i64 s.wd)) (h4 : w.cell? ⟨g, q + 4, none⟩ = some (.int .i64 s.gram)) (hs : ShelfOk p s) (hb : boxB p b = true) (hp : palletB p.wd p.dp p.ht p.gram = true) :
 Calls Try.prog 45 #[.pointer (some ⟨g, q, none⟩), .agg #[.int .i64 p.wd, .int .i64 p.dp, .int .i64 p.ht, .int .i64 p.gram], .agg #[.int .i64 b.wd, .int .i64 b.dp, .int .i64 b.ht, .int .i64 b.gram]] w fun e w' => e = .returned (.bool (roomS p s b)) ∧ Below w.heap.size w w' := by
 have hlt := World.block_lt_of_cell? w _ h1
 have hbi := box_in hb
 have hpi := pal_in hp
 have o0 := hs.w0
 have o1 := hs.w1
 have o2 := hs.g0
 have o3 := hs.g1
 have hbel : Below w.heap.size w ((w.alloc (.cells #[.int .i64 p.wd, .int .i64 p.dp, .int .i64 p.ht, .int .i64 p.gram] 27)).alloc (.cells #[.int .i64 b.wd, .int .i64 b.dp, .int .i64 b.ht, .int .i64 b.gram] 52)) := ((Below.refl _ _).alloc (Nat.le_refl _) _).alloc (by simp) _
 have HB := hide hbel
 have HRM : Hid (roomS p s b = (decide (s.wd + b.wd ≤ p.wd) && decide (s.gram + b.gram ≤ p.gram))) := rfl
 clear hs hb hp hbel
 obtain ⟨sl, sw, sd, sh, sg⟩ := s
 obtain ⟨pw, pd, ph, pg⟩ := p
 obtain ⟨bw, bd, bh, bg⟩ := b
 dsimp only at *
 have hcs : (sw + bw ≤ pw ∧ sg + bg ≤ pg) ∨ (sw + bw ≤ pw ∧ ¬ sg + bg ≤ pg) ∨ ¬ sw + bw ≤ pw := by omega
 rcases hcs with ⟨n1, n2⟩ | ⟨n1, n2⟩ | n1
 all_goals
  go_enter Try.func45, Try.ntmps45
  go_wp2_with go_region
  all_goals
   go_ret
   exact ⟨bx_ret (by rw [unhide HRM]; first | (simp [*]; done) | (simp; omega)), HB.out.trans (below_drewN (Below.refl _ _) _)⟩
/-- A box has been put onto the shelf at ⟨g, q⟩. -/
def PutPost (B g q m : Nat) (i : Int) (lv : Value) (s : ShelfV) (b : BoxV) (w w' : World) : Prop :=
 ∃ (w3 : World) (g3 c3 : Nat), w3.ownsRow B 3 1 (.slice (some ⟨g3, 0, none⟩) (m + 1) c3) (m + 1) ((s.us ++ [i]).map (Value.int .i64)) ∧ w.grownBy w3 lv.ownBlock ∧ (lv.ownBlock = some g3 ∨ w.heap.size ≤ g3) ∧ g3 < w3.heap.size ∧ w' = (writeCells w3 g q [.slice (some ⟨g3, 0, none⟩) (m + 1) c3, .int .i64 (s.wd + b.wd), .int .i64 (mx s.dp b.dp), .int .i64 (mx s.ht b.ht), .int .i64 (s.gram + b.gram)]).drewN 4
theorem fill5_at (w : World) (g q : Nat) (a b c d e : Value) : (writeCells w g q [a, b, c, d, e]).drewN 4 = (((((w.setCell ⟨g, q, none⟩ a).setCell ⟨g, q + 1, none⟩ b).setCell ⟨g, q + 2, none⟩ c).setCell ⟨g, q + 3, none⟩ d).setCell ⟨g, q + 4, none⟩ e).drew.drew.drew.drew := by
 simp only [writeCells, World.drew_is_drewN, World.drewN_drewN]
theorem gb_later {w W w3 : World} {row : Option Nat} (hb : Below w.heap.size w W) (hg : W.grownBy w3 row) : w.grownBy w3 row :=
 ⟨hg.os.trans hb.os, hg.tape.trans hb.tape, hg.output.trans hb.output, Nat.le_trans hb.size hg.size, fun k hk hne => (hg.block k (Nat.lt_of_lt_of_le hk hb.size) hne).trans (hb.block k hk)⟩
set_option maxRecDepth 100000 in
set_option maxHeartbeats 4000000 in
theorem put_any (p : PalletV) (s : ShelfV) (b : BoxV) (B g q m : Nat) (i : Int) (lv : Value) (w : World) (h0 : w.cell? ⟨g, q, none⟩ = some lv) (h1 : w.cell? ⟨g, q + 1, none⟩ = some (.int .i64 s.wd)) (h2 : w.cell? ⟨g, q + 2, none⟩ = some (.int .i64 s.dp)) (h3 : w.cell? ⟨g, q + 3, none⟩ = some (.int .i64 s.ht)) (h4 : w.cell? ⟨g, q + 4, none⟩ = some (.int .i64 s.gram))
 (hf : ∀ j, w.frozen? ⟨g, q + j, none⟩ = false) (hl : (lv = .slice none 0 0 ∧ m = 0) ∨ ∃ r c, lv = .slice (some ⟨r, 0, none⟩) m c) (ho : w.ownsRow B 3 1 lv m (s.us.map (Value.int .i64))) (hB : B ≤ w.heap.size) (hBg : B ≤ g) (hne : lv.ownBlock ≠ some g) (hm : m ≤ 1048576) (hs : ShelfOk p s) (hb : boxB p b = true) (hr : roomS p s b = true) (hp : palletB p.wd p.dp p.ht p.gram = true) :
 Calls Try.prog 46 #[.pointer (some ⟨g, q, none⟩), .int .i64 i, .agg #[.int .i64 b.wd, .int .i64 b.dp, .int .i64 b.ht, .int .i64 b.gram]] w fun e w' => e = .returned (.tuple #[]) ∧ PutPost B g q m i lv s b w w' := by
 obtain ⟨i0, hi, hz0, hz1, hz2⟩ := info_parts Try.infoInt
 have hlt := World.block_lt_of_cell? w _ h0
 have hbi := box_in hb
 have hpi := pal_in hp
 have hri := room_iff.1 hr
 have o0 := hs.w0
 have o1 := hs.w1
 have o2 := hs.g0
 have o3 := hs.g1
 have f0 := hf 0
 have f1 := hf 1
 have f2 := hf 2
 have f3 := hf 3
 have f4 := hf 4
 rw [Nat.add_zero] at f0
 have HO := hide ho
 clear hs hb hr hp ho hf
 obtain ⟨sl, sw, sd, sh, sg⟩ := s
 obtain ⟨bw, bd, bh, bg⟩ := b
 dsimp only at *
 rcases hl with ⟨rfl, rfl⟩ | ⟨r, c, rfl⟩
 · have O1 := hide (HO.out.alloc (.cells #[.int .i64 bw, .int .i64 bd, .int .i64 bh, .int .i64 bg] 52))
   go_enter Try.func46, Try.ntmps46
   have hb2 : Below w.heap.size w ((w.alloc (.cells #[.int .i64 bw, .int .i64 bd, .int .i64 bh, .int .i64 bg] 52)).alloc (.cells #[.int .i64 i] 3)) := ((Below.refl _ _).alloc (Nat.le_refl _) _).alloc (by simp) _
   have k2 : Blk ((w.alloc (.cells #[.int .i64 bw, .int .i64 bd, .int .i64 bh, .int .i64 bg] 52)).alloc (.cells #[.int .i64 i] 3)) w.heap.size [.int .i64 bw, .int .i64 bd, .int .i64 bh, .int .i64 bg] := (Blk.allocAt [.int .i64 bw, .int .i64 bd, .int .i64 bh, .int .i64 bg] rfl).allocOld (by simp) _
   have hown : ∀ k, (Value.ownBlock (.slice none 0 0)) = some k → k < w.heap.size := fun k hk => (HO.out.lt k hk).2
   have O2 := hide (O1.out.alloc (.cells #[.int .i64 i] 3))
   have HNW : Hid (∀ j u, [Value.int .i64 i][j]? = some u → ((w.alloc (.cells #[.int .i64 bw, .int .i64 bd, .int .i64 bh, .int .i64 bg] 52)).alloc (.cells #[.int .i64 i] 3)).cell? ((⟨w.heap.size + 1, 0, none⟩ : Addr).add j) = some u) := Blk.news (Blk.allocAt [.int .i64 i] (by simp))
   have hz2 : w.heap.size + 1 < ((w.alloc (.cells #[.int .i64 bw, .int .i64 bd, .int .i64 bh, .int .i64 bg] 52)).alloc (.cells #[.int .i64 i] 3)).heap.size := by simp
   have HZ2 := hide hz2
   clear hz2
   have HB2 := hide hb2
   have HK2 := hide k2
   have HNE := hide hne
   have HOWN := hide hown
   clear hb2 k2 hne hown O1
   go_wp2_with ((at_builtin; (refine wpList_append_lies _ rfl _ _ 49 rfl B 3 i0 (.int .i64 0) 1 8 Try.underlying49 hi hz0 hz1 hz2 rfl (by omega) (.slice none 0 0) 0 (sl.map (Value.int .i64)) rfl O2.out ⟨w.heap.size + 1, 0, none⟩ 1 1 [.int .i64 i] rfl rfl HNW.out (by simp [Value.oneCell']) (by omega) (by unfold maxLen; omega) (by omega) (by simp; omega) (w.heap.size + 1 + 1) (by simp) ?_; intro g3 cap3 w3 ho3 hg3 hat3 hlt3; generalize ((w.alloc (.cells #[.int .i64 bw, .int .i64 bd, .int .i64 bh, .int .i64 bg] 52)).alloc (.cells #[.int .i64 i] 3)) = W2 at *; have hW2 := HZ2.out; have hng : some g ≠ (Value.ownBlock (.slice none 0 0)) := fun e => HNE.out e.symm; have hgl : g < W2.heap.size := (by omega); have c0 : w3.cell? ⟨g, q, none⟩ = some (.slice none 0 0) := (hg3.cell_far ⟨g, q, none⟩ hgl hng).trans ((HB2.out.cell (p := ⟨g, q, none⟩) hlt).trans h0); have c1 : w3.cell? ⟨g, q + 1, none⟩ = some (.int .i64 sw) := (hg3.cell_far ⟨g, q + 1, none⟩ hgl hng).trans ((HB2.out.cell (p := ⟨g, q + 1, none⟩) hlt).trans h1); have c2 : w3.cell? ⟨g, q + 2, none⟩ = some (.int .i64 sd) := (hg3.cell_far ⟨g, q + 2, none⟩ hgl hng).trans ((HB2.out.cell (p := ⟨g, q + 2, none⟩) hlt).trans h2); have c3 : w3.cell? ⟨g, q + 3, none⟩ = some (.int .i64 sh) := (hg3.cell_far ⟨g, q + 3, none⟩ hgl hng).trans ((HB2.out.cell (p := ⟨g, q + 3, none⟩) hlt).trans h3); have c4 : w3.cell? ⟨g, q + 4, none⟩ = some (.int .i64 sg) := (hg3.cell_far ⟨g, q + 4, none⟩ hgl hng).trans ((HB2.out.cell (p := ⟨g, q + 4, none⟩) hlt).trans h4); have z0 : w3.frozen? ⟨g, q, none⟩ = false := (hg3.frozen_far ⟨g, q, none⟩ hgl hng).trans ((HB2.out.frozen (p := ⟨g, q, none⟩) hlt).trans f0); have z1 : w3.frozen? ⟨g, q + 1, none⟩ = false := (hg3.frozen_far ⟨g, q + 1, none⟩ hgl hng).trans ((HB2.out.frozen (p := ⟨g, q + 1, none⟩) hlt).trans f1); have z2 : w3.frozen? ⟨g, q + 2, none⟩ = false := (hg3.frozen_far ⟨g, q + 2, none⟩ hgl hng).trans ((HB2.out.frozen (p := ⟨g, q + 2, none⟩) hlt).trans f2); have z3 : w3.frozen? ⟨g, q + 3, none⟩ = false := (hg3.frozen_far ⟨g, q + 3, none⟩ hgl hng).trans ((HB2.out.frozen (p := ⟨g, q + 3, none⟩) hlt).trans f3); have z4 : w3.frozen? ⟨g, q + 4, none⟩ = false := (hg3.frozen_far ⟨g, q + 4, none⟩ hgl hng).trans ((HB2.out.frozen (p := ⟨g, q + 4, none⟩) hlt).trans f4); have hnb : some w.heap.size ≠ (Value.ownBlock (.slice none 0 0)) := (fun e => by have := HOWN.out _ e.symm; omega); have hbl : w.heap.size < W2.heap.size := (by omega); have b0 : w3.cell? ⟨w.heap.size, 0, none⟩ = some (.int .i64 bw) := (hg3.cell_far ⟨w.heap.size, 0, none⟩ hbl hnb).trans (HK2.out 0 (by simp)).1; have b1 : w3.cell? ⟨w.heap.size, 1, none⟩ = some (.int .i64 bd) := (hg3.cell_far ⟨w.heap.size, 1, none⟩ hbl hnb).trans (HK2.out 1 (by simp)).1; have b2 : w3.cell? ⟨w.heap.size, 2, none⟩ = some (.int .i64 bh) := (hg3.cell_far ⟨w.heap.size, 2, none⟩ hbl hnb).trans (HK2.out 2 (by simp)).1; have b3 : w3.cell? ⟨w.heap.size, 3, none⟩ = some (.int .i64 bg) := (hg3.cell_far ⟨w.heap.size, 3, none⟩ hbl hnb).trans (HK2.out 3 (by simp)).1; have HO3 := hide ho3; have HG3 := hide hg3; have HA3 := hide hat3; have hngb : g ≠ w.heap.size := (by omega); clear hng hnb ho3 hg3 hat3; clear h0 h1 h2 h3 h4 f0 f1 f2 f3 f4)))
   go_wp2_with go_region
   all_goals
    go_end0
    refine ⟨rfl, w3, g3, cap3, ?_, gb_later HB2.out HG3.out, ?_, hlt3, ?_⟩
    · rw [List.map_append]
      exact unhide HO3
    · rcases unhide HA3 with h | h
      · exact .inl h
      · right; omega
    · first | rw [show mx sd bd = bd from if_pos (by omega)] | rw [show mx sd bd = sd from if_neg (by omega)]
      first | rw [show mx sh bh = bh from if_pos (by omega)] | rw [show mx sh bh = sh from if_neg (by omega)]
      rw [fill5_at]
 · have O1 := hide (HO.out.alloc (.cells #[.int .i64 bw, .int .i64 bd, .int .i64 bh, .int .i64 bg] 52))
   go_enter Try.func46, Try.ntmps46
   have hb2 : Below w.heap.size w ((w.alloc (.cells #[.int .i64 bw, .int .i64 bd, .int .i64 bh, .int .i64 bg] 52)).alloc (.cells #[.int .i64 i] 3)) := ((Below.refl _ _).alloc (Nat.le_refl _) _).alloc (by simp) _
   have k2 : Blk ((w.alloc (.cells #[.int .i64 bw, .int .i64 bd, .int .i64 bh, .int .i64 bg] 52)).alloc (.cells #[.int .i64 i] 3)) w.heap.size [.int .i64 bw, .int .i64 bd, .int .i64 bh, .int .i64 bg] := (Blk.allocAt [.int .i64 bw, .int .i64 bd, .int .i64 bh, .int .i64 bg] rfl).allocOld (by simp) _
   have hown : ∀ k, (Value.ownBlock (.slice (some ⟨r, 0, none⟩) m c)) = some k → k < w.heap.size := fun k hk => (HO.out.lt k hk).2
   have O2 := hide (O1.out.alloc (.cells #[.int .i64 i] 3))
   have HNW : Hid (∀ j u, [Value.int .i64 i][j]? = some u → ((w.alloc (.cells #[.int .i64 bw, .int .i64 bd, .int .i64 bh, .int .i64 bg] 52)).alloc (.cells #[.int .i64 i] 3)).cell? ((⟨w.heap.size + 1, 0, none⟩ : Addr).add j) = some u) := Blk.news (Blk.allocAt [.int .i64 i] (by simp))
   have hz2 : w.heap.size + 1 < ((w.alloc (.cells #[.int .i64 bw, .int .i64 bd, .int .i64 bh, .int .i64 bg] 52)).alloc (.cells #[.int .i64 i] 3)).heap.size := by simp
   have HZ2 := hide hz2
   clear hz2
   have HB2 := hide hb2
   have HK2 := hide k2
   have HNE := hide hne
   have HOWN := hide hown
   clear hb2 k2 hne hown O1
   go_wp2_with (first
    | (at_builtin; (refine wpList_append_lies _ rfl _ _ 49 rfl B 3 i0 (.int .i64 0) 1 8 Try.underlying49 hi hz0 hz1 hz2 rfl (by omega) (.slice (some ⟨r, 0, none⟩) m c) m (sl.map (Value.int .i64)) rfl O2.out ⟨w.heap.size + 1, 0, none⟩ 1 1 [.int .i64 i] rfl rfl HNW.out (by simp [Value.oneCell']) (by omega) (by unfold maxLen; omega) (by omega) (by simp; omega) (w.heap.size + 1 + 1) (by simp) ?_; intro g3 cap3 w3 ho3 hg3 hat3 hlt3; generalize ((w.alloc (.cells #[.int .i64 bw, .int .i64 bd, .int .i64 bh, .int .i64 bg] 52)).alloc (.cells #[.int .i64 i] 3)) = W2 at *; have hW2 := HZ2.out; have hng : some g ≠ (Value.ownBlock (.slice (some ⟨r, 0, none⟩) m c)) := fun e => HNE.out e.symm; have hgl : g < W2.heap.size := (by omega); have c0 : w3.cell? ⟨g, q, none⟩ = some (.slice (some ⟨r, 0, none⟩) m c) := (hg3.cell_far ⟨g, q, none⟩ hgl hng).trans ((HB2.out.cell (p := ⟨g, q, none⟩) hlt).trans h0); have c1 : w3.cell? ⟨g, q + 1, none⟩ = some (.int .i64 sw) := (hg3.cell_far ⟨g, q + 1, none⟩ hgl hng).trans ((HB2.out.cell (p := ⟨g, q + 1, none⟩) hlt).trans h1); have c2 : w3.cell? ⟨g, q + 2, none⟩ = some (.int .i64 sd) := (hg3.cell_far ⟨g, q + 2, none⟩ hgl hng).trans ((HB2.out.cell (p := ⟨g, q + 2, none⟩) hlt).trans h2); have c3 : w3.cell? ⟨g, q + 3, none⟩ = some (.int .i64 sh) := (hg3.cell_far ⟨g, q + 3, none⟩ hgl hng).trans ((HB2.out.cell (p := ⟨g, q + 3, none⟩) hlt).trans h3); have c4 : w3.cell? ⟨g, q + 4, none⟩ = some (.int .i64 sg) := (hg3.cell_far ⟨g, q + 4, none⟩ hgl hng).trans ((HB2.out.cell (p := ⟨g, q + 4, none⟩) hlt).trans h4); have z0 : w3.frozen? ⟨g, q, none⟩ = false := (hg3.frozen_far ⟨g, q, none⟩ hgl hng).trans ((HB2.out.frozen (p := ⟨g, q, none⟩) hlt).trans f0); have z1 : w3.frozen? ⟨g, q + 1, none⟩ = false := (hg3.frozen_far ⟨g, q + 1, none⟩ hgl hng).trans ((HB2.out.frozen (p := ⟨g, q + 1, none⟩) hlt).trans f1); have z2 : w3.frozen? ⟨g, q + 2, none⟩ = false := (hg3.frozen_far ⟨g, q + 2, none⟩ hgl hng).trans ((HB2.out.frozen (p := ⟨g, q + 2, none⟩) hlt).trans f2); have z3 : w3.frozen? ⟨g, q + 3, none⟩ = false := (hg3.frozen_far ⟨g, q + 3, none⟩ hgl hng).trans ((HB2.out.frozen (p := ⟨g, q + 3, none⟩) hlt).trans f3); have z4 : w3.frozen? ⟨g, q + 4, none⟩ = false := (hg3.frozen_far ⟨g, q + 4, none⟩ hgl hng).trans ((HB2.out.frozen (p := ⟨g, q + 4, none⟩) hlt).trans f4); have hnb : some w.heap.size ≠ (Value.ownBlock (.slice (some ⟨r, 0, none⟩) m c)) := (fun e => by have := HOWN.out _ e.symm; omega); have hbl : w.heap.size < W2.heap.size := (by omega); have b0 : w3.cell? ⟨w.heap.size, 0, none⟩ = some (.int .i64 bw) := (hg3.cell_far ⟨w.heap.size, 0, none⟩ hbl hnb).trans (HK2.out 0 (by simp)).1; have b1 : w3.cell? ⟨w.heap.size, 1, none⟩ = some (.int .i64 bd) := (hg3.cell_far ⟨w.heap.size, 1, none⟩ hbl hnb).trans (HK2.out 1 (by simp)).1; have b2 : w3.cell? ⟨w.heap.size, 2, none⟩ = some (.int .i64 bh) := (hg3.cell_far ⟨w.heap.size, 2, none⟩ hbl hnb).trans (HK2.out 2 (by simp)).1; have b3 : w3.cell? ⟨w.heap.size, 3, none⟩ = some (.int .i64 bg) := (hg3.cell_far ⟨w.heap.size, 3, none⟩ hbl hnb).trans (HK2.out 3 (by simp)).1; have HO3 := hide ho3; have HG3 := hide hg3; have HA3 := hide hat3; have hngb : g ≠ w.heap.size := (by omega); clear hng hnb ho3 hg3 hat3; clear h0 h1 h2 h3 h4 f0 f1 f2 f3 f4))
    | fail)
   go_wp2_with go_region
   all_goals
    go_end0
    refine ⟨rfl, w3, g3, cap3, ?_, gb_later HB2.out HG3.out, ?_, hlt3, ?_⟩
    · rw [List.map_append]
      exact unhide HO3
    · rcases unhide HA3 with h | h
      · exact .inl h
      · right; omega
    · first | rw [show mx sd bd = bd from if_pos (by omega)] | rw [show mx sd bd = sd from if_neg (by omega)]
      first | rw [show mx sh bh = bh from if_pos (by omega)] | rw [show mx sh bh = sh from if_neg (by omega)]
      rw [fill5_at]
end Go.Proofs.Ytcblpoeeembniaa
