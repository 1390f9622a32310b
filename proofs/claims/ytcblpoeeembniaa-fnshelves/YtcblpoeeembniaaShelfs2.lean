/- Rows of Shelfs: the laws' copies and comparisons. -/
import Derived.Test.YtcblpoeeembniaaShelfs
namespace Go.Proofs.Ytcblpoeeembniaa
open Go.RowKit
set_option linter.unusedVariables false

theorem rowsShelf_step {n k : Nat} {xs : List ShelfW} {r : ShelfW} {L : List Value} (hl : xs.length = k) (hLl : L.length = n * 5) (hk : k < n) (hL : ∀ i, i < k → ∀ j, j < 5 → L[i * 5 + j]? = ((xs.getD i default).cells)[j]?) :
 ∀ i, i < k + 1 → ∀ j, j < 5 → (writeRow L (k * 5) r.cells)[i * 5 + j]? = (((xs ++ [r]).getD i default).cells)[j]? := by
 intro i hi j hj
 rw [writeRow_get _ _ _ _ (by rw [ShelfW.len, hLl]; omega), ShelfW.len]
 by_cases e : i = k
 · subst e
   rw [if_pos (by omega), show i * 5 + j - i * 5 = j by omega, ← hl, getD_snoc_eq]
 · rw [if_neg (by omega), hL i (by omega) j hj, getD_snoc_lt (by omega)]
theorem rowsShelf_all {n : Nat} {xs : List ShelfW} {L : List Value} (hl : xs.length = n) (hLl : L.length = n * 5) (hL : ∀ i, i < n → ∀ j, j < 5 → L[i * 5 + j]? = ((xs.getD i default).cells)[j]?) : L = cellsShelf xs := by
 refine List.ext_getElem? fun m => ?_
 by_cases hm : m < n * 5
 · obtain ⟨q, j, hj, rfl⟩ : ∃ q j, j < 5 ∧ m = q * 5 + j := ⟨m / 5, m % 5, Nat.mod_lt _ (by omega), by omega⟩
   rw [hL q (by omega) j hj, cellsShelf_at xs q j (by omega) hj]
 · rw [List.getElem?_eq_none (by omega), List.getElem?_eq_none (by rw [cellsShelf_len]; omega)]
theorem Try.infoShelf : (Try.prog.info? 51 ).map (fun i => (i.zero, i.size, i.bytes)) = some (some (.agg #[.slice none 0 0, .int .i64 0, .int .i64 0, .int .i64 0, .int .i64 0]), 5, 56) := by kernel_rfl
set_option maxHeartbeats 1000000 in
theorem toShelfS_any (a : Option Addr) (n c : Nat) (cs : List ShelfV) (w : World) (hr : RdShelf w a n cs) (hn : n ≤ 1048576) (hm : ∀ i, i < n → (cs.getD i default).us.length ≤ 1048576) :
 Calls Try.prog 17 #[.slice a n c] w fun e w' => ∃ xs : List ShelfW, e = .returned (.slice (some ⟨w.heap.size, 0, none⟩) n n) ∧ xs.length = n ∧ xs.map ShelfW.car = cs ∧ OwnShelf w' w.heap.size w.heap.size n xs ∧ Below w.heap.size w w' := by
 obtain ⟨i0, hi, hz0, hz1, hz2⟩ := info_parts Try.infoShelf
 have hbb : i0.bytes * n ≤ 281474976710656 := by rw [hz2]; omega
 have HR := hide hr
 clear hr
 go_enter Try.func17, Try.ntmps17
 go_wp2_with (first
  | (at_make; refine wpList_make_full _ rfl _ _ 36 rfl w.heap.size 51 i0 (.agg #[.slice none 0 0, .int .i64 0, .int .i64 0, .int .i64 0, .int .i64 0]) 5 Try.underlying36 hi hz0 hz1 .i64 .i64 n n n rfl rfl rfl rfl hbb (by unfold maxLen; omega) (Nat.le_refl _) ?_; intro w1 hown hgrow)
  | go_in)
 have hb1 : Below w.heap.size w w1 := (Below.refl _ _).grown hgrow (Nat.le_refl _) (by simp)
 have HO := hide hown
 have HB := hide hb1
 clear hown hgrow hb1
 go_loopw [4] (fun i wr => ∃ (k : Nat) (xs : List ShelfW) (L : List Value), k ≤ n ∧ i = .int .i64 k ∧ xs.length = k ∧ xs.map ShelfW.car = cs.take k ∧ wr.ownsRow w.heap.size 51 5 (.slice (some ⟨w.heap.size, 0, none⟩) n n) n L ∧
  (∀ i, i < k → ∀ j, j < 5 → L[i * 5 + j]? = ((xs.getD i default).cells)[j]?) ∧ Rws wr w.heap.size w.heap.size (xs.map ShelfW.row) ∧ Below w.heap.size w wr) (fun i _ => n - (intOf i).toNat)
 case atStart => exact ⟨0, [], _, Nat.zero_le _, rfl, rfl, rfl, unhide HO, fun i hi => absurd hi (Nat.not_lt_zero _), Rws.nil, unhide HB⟩
 case round =>
  clear HO HB
  obtain ⟨k, xs, L, hk, rfl, hxl, hxg, how, hL, hrs, hbel⟩ := hrel
  have HXL := hide hxl
  have HXG := hide hxg
  have HO := hide how
  have HL := hide hL
  have HS := hide hrs
  have HB := hide hbel
  clear hxl hxg how hrs hL
  by_cases hlt : k < n
  case neg =>
   obtain rfl : k = n := by omega
   clear hbel
   go_wp2
   go_ret
   have e : cs.take k = cs := List.take_of_length_le (by have := HR.out.1; omega)
   have hx := unhide HXL
   have hLe := rowsShelf_all hx HO.out.1 HL.out
   refine ⟨xs, rfl, hx, by rw [unhide HXG, e], ⟨?_, unhide HS⟩, unhide HB⟩
   have ho := unhide HO
   rw [hLe] at ho
   rw [hx]
   exact ho
  obtain ⟨b, off, ai, ci, rfl, hc0, hc1, hc2, hc3, hc4, hrow⟩ := (HR.out.mono hbel).2 k hlt
  have HM := hide (hm k hlt)
  have HTK := hide (show cs.take (k + 1) = cs.take k ++ [cs.getD k default] by rw [List.take_succ_eq_append_getElem (by rw [HR.out.1]; exact hlt)]; simp [HR.out.1, hlt])
  generalize cs.getD k default = q at hc0 hc1 hc2 hc3 hc4 hrow HM HTK
  have HQ := hide hrow
  clear hrow hbel
  go_wp2_with fail
  refine (toShelf_any q.wd q.dp q.ht q.gram ai ci q.us wr HQ.out HM.out).mono ?_
  rintro e w2 ⟨g, rfl, ho2, hb2⟩
  clear hc0 hc1 hc2 hc3 hc4
  have hz : w.heap.size < wr.heap.size := (HO.out.lt _ rfl).2
  have hg := ho2.lt
  dsimp only at hg
  have O2 := own_later HO.out hb2
  have S2 := HS.out.later hb2
  obtain ⟨u0, e0, t0⟩ := row_at (j := 0) O2.1 hlt (by omega)
  have f0 : w2.cell? ⟨w.heap.size, k * 5, none⟩ = some u0 := (O2.cellAt _ t0).trans e0
  have z0 : w2.frozen? ⟨w.heap.size, k * 5, none⟩ = false := O2.frozenAt (k * 5)
  obtain ⟨u1, e1, t1⟩ := row_at (j := 1) O2.1 hlt (by omega)
  have f1 : w2.cell? ⟨w.heap.size, k * 5 + 1, none⟩ = some u1 := (O2.cellAt _ t1).trans e1
  have z1 : w2.frozen? ⟨w.heap.size, k * 5 + 1, none⟩ = false := O2.frozenAt (k * 5 + 1)
  obtain ⟨u2, e2, t2⟩ := row_at (j := 2) O2.1 hlt (by omega)
  have f2 : w2.cell? ⟨w.heap.size, k * 5 + 2, none⟩ = some u2 := (O2.cellAt _ t2).trans e2
  have z2 : w2.frozen? ⟨w.heap.size, k * 5 + 2, none⟩ = false := O2.frozenAt (k * 5 + 2)
  obtain ⟨u3, e3, t3⟩ := row_at (j := 3) O2.1 hlt (by omega)
  have f3 : w2.cell? ⟨w.heap.size, k * 5 + 3, none⟩ = some u3 := (O2.cellAt _ t3).trans e3
  have z3 : w2.frozen? ⟨w.heap.size, k * 5 + 3, none⟩ = false := O2.frozenAt (k * 5 + 3)
  obtain ⟨u4, e4, t4⟩ := row_at (j := 4) O2.1 hlt (by omega)
  have f4 : w2.cell? ⟨w.heap.size, k * 5 + 4, none⟩ = some u4 := (O2.cellAt _ t4).trans e4
  have z4 : w2.frozen? ⟨w.heap.size, k * 5 + 4, none⟩ = false := O2.frozenAt (k * 5 + 4)
  obtain ⟨R, hR⟩ : ∃ R : ShelfW, R = ⟨g, q.us.length, q.us, q.wd, q.dp, q.ht, q.gram⟩ := ⟨_, rfl⟩
  have hRc : R.cells = [.slice (some ⟨g, 0, none⟩) q.us.length q.us.length, .int .i64 q.wd, .int .i64 q.dp, .int .i64 q.ht, .int .i64 q.gram] := by rw [hR]; rfl
  have hRq : R.car = q := by rw [hR]; rfl
  have hRr : R.row = ⟨g, q.us.length, q.us⟩ := by rw [hR]; rfl
  have O3 := own_write R.cells _ _ (k * 5) O2
  have gb : w2.grownBy (writeCells w2 w.heap.size (k * 5) R.cells) (some w.heap.size) := by
   rw [hRc]
   exact (gb_set (gb_set (gb_set (gb_set (gb_set (World.grownBy.refl _ _) _ _) _ _) _ _) _ _) _ _)
  have HL3 := hide (rowsShelf_step (r := R) HXL.out O2.1 hlt HL.out)
  have S3 : Rws (writeCells w2 w.heap.size (k * 5) R.cells) w.heap.size w.heap.size ((xs ++ [R]).map ShelfW.row) := by
   rw [List.map_append]
   refine (S2.kept gb (fun i hi e => by have := S2.far i hi; injection e with e; exact this e)).snoc (r := R.row) ?_ ?_ ?_
   · rw [hRr]
     exact RowV.own.kept (World.ownsRow.mono ho2 (by omega)) gb (by intro e; injection e with e; exact absurd e (show g ≠ w.heap.size by omega))
   · intro i hi e
     have := (HS.out.row i hi).lt.2
     rw [hRr] at e
     dsimp only at e
     omega
   · rw [hRr]; dsimp only; omega
  have HB3 : Hid (Below w.heap.size w (writeCells w2 w.heap.size (k * 5) R.cells)) := below_write (Nat.le_refl _) R.cells _ _ (k * 5) (HB.out.trans (hb2.mono HB.out.size))
  rw [hRc] at O3 S3 HB3
  have HO3 := hide O3
  have HS3 := hide S3
  rw [← hRc] at HO3
  have HC := hide hRc
  have HE : Hid ((xs ++ [R]).map ShelfW.car = cs.take (k + 1)) := by rw [Hid, List.map_append, unhide HXG, unhide HTK]; simp [hRq]
  have HN : Hid ((xs ++ [R]).length = k + 1) := by rw [Hid, List.length_append, unhide HXL]; rfl
  clear O2 O3 S2 S3 hRc hRq hRr hR gb ho2 hb2 hg HO HS HB HXL HXG HTK HL e0 e1 e2 e3 e4 t0 t1 t2 t3 t4
  unfold writeCells at HO3 HS3 HB3
  go_wp2
  go_roundw
  case rel => exact ⟨k + 1, xs ++ [R], _, by omega, by go_num, unhide HN, unhide HE, by have := unhide HO3; rw [unhide HC] at this; exact this, by have := unhide HL3; rw [unhide HC] at this; exact this, unhide HS3, unhide HB3⟩
  case measure => simp [intOf]; omega
set_option maxHeartbeats 1000000 in
theorem eqShelfS_same (a : Option Addr) (n c : Nat) (a' : Option Addr) (c' : Nat) (cs : List ShelfV) (w : World) (hr : RdShelf w a n cs) (hr' : RdShelf w a' n cs) (hn : n ≤ 1048576) (hm : ∀ i, i < n → (cs.getD i default).us.length ≤ 1048576) :
 Calls Try.prog 19 #[.slice a n c, .slice a' n c'] w fun e w' => e = .returned (.bool true) ∧ Below w.heap.size w w' := by
 have hne : ((n : Int) != (n : Int)) = false := by simp
 have HR := hide hr
 have HR' := hide hr'
 clear hr hr'
 go_enter Try.func19, Try.ntmps19
 go_wp2
 go_loopw [5] (fun i wr => ∃ k : Nat, k ≤ n ∧ i = .int .i64 k ∧ Below w.heap.size w wr) (fun i _ => n - (intOf i).toNat)
 case atStart => exact ⟨0, Nat.zero_le _, rfl, Below.refl _ _⟩
 case round =>
  obtain ⟨k, hk, rfl, hbel⟩ := hrel
  have HB := hide hbel
  by_cases hlt : k < n
  · obtain ⟨b, off, ai, ci, rfl, hc0, hc1, hc2, hc3, hc4, hrow⟩ := (HR.out.mono hbel).2 k hlt
    obtain ⟨b', off', ai', ci', rfl, hd0, hd1, hd2, hd3, hd4, hrow'⟩ := ((unhide HR').mono hbel).2 k hlt
    have hm1 := hm k hlt
    have HQ := hide hrow
    have HQ' := hide hrow'
    clear hbel hrow hrow'
    generalize cs.getD k default = q at hc0 hc1 hc2 hc3 hc4 hd0 hd1 hd2 hd3 hd4 hm1 HQ HQ'
    go_wp2_with fail
    go_region_with ((go_at_call 40; go_must (refine (eqShelf_same q.wd q.dp q.ht q.gram ai ci ai' ci' q.us _ (by exact unhide HQ) (by exact unhide HQ') hm1).mono ?_; rintro e w2 ⟨rfl, hb2⟩)))
    all_goals
     go_wp2
     go_roundw
     case rel => exact ⟨k + 1, by omega, by go_num, HB.out.drew.trans (hb2.mono HB.out.size)⟩
     case measure => simp [intOf]; omega
  · clear hbel
    go_wp2
    go_ret
    exact ⟨rfl, unhide HB⟩
end Go.Proofs.Ytcblpoeeembniaa
