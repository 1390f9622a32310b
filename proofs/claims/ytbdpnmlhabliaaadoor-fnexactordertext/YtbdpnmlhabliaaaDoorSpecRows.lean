/- The model's rows of an order's text. -/
import Derived.Test.YtbdpnmlhabliaaaDoorRowsO
import Derived.Deep.RegionHeldLaw
import Derived.Maps.AppendAt
import Derived.Deep.AppendLies
import Derived.WalkSpells
namespace Go.Proofs.YtbdpnmlhabliaaaDoor
open Go.RowKit
set_option linter.unusedVariables false
set_option maxRecDepth 20000
theorem Tryd.infoStr4 : (Tryd.prog.info? 9).map (fun i => (i.zero, i.size, i.bytes)) = some (some (.string ⟨#[]⟩), 1, 16) := by kernel_rfl
theorem Tryd.infoIntS4 : (Tryd.prog.info? 59).map (fun i => (i.zero, i.size, i.bytes)) = some (some (.slice none 0 0), 1, 24) := by kernel_rfl
def rows0 (r : ReqV) : List (Nat × List Int) := [(1, r.pal.nums), (2, [r.classes])]
def rowsP (r : ReqV) (k : Nat) : List (Nat × List Int) := rows0 r ++ (r.pairs.take k).map fun q => (3, q.nums)
def rowsT (r : ReqV) (k : Nat) : List (Nat × List Int) := rowsP r r.pairs.length ++ (r.types.take k).map fun q => (4, q.nums)
def rowsI (r : ReqV) (k : Nat) : List (Nat × List Int) := (rowsT r r.types.length ++ [(5, [r.master])]) ++ (r.items.take k).map fun q => (6, q.nums)
theorem take_map_step {α β : Type} [Inhabited α] (xs : List α) (f : α → β) (k : Nat) (h : k < xs.length) : (xs.take (k + 1)).map f = (xs.take k).map f ++ [f (xs.getD k default)] := by
  rw [List.take_succ_eq_append_getElem h, List.map_append]; simp [List.getD_eq_getElem?_getD, h]
theorem rowsP_step (r : ReqV) (k : Nat) (h : k < r.pairs.length) : rowsP r (k + 1) = rowsP r k ++ [(3, (r.pairs.getD k default).nums)] := by
  rw [rowsP, take_map_step _ _ _ h, ← List.append_assoc]; rfl
theorem rowsT_step (r : ReqV) (k : Nat) (h : k < r.types.length) : rowsT r (k + 1) = rowsT r k ++ [(4, (r.types.getD k default).nums)] := by
  rw [rowsT, take_map_step _ _ _ h, ← List.append_assoc]; rfl
theorem rowsI_step (r : ReqV) (k : Nat) (h : k < r.items.length) : rowsI r (k + 1) = rowsI r k ++ [(6, (r.items.getD k default).nums)] := by
  rw [rowsI, take_map_step _ _ _ h, ← List.append_assoc]; rfl
theorem rowsT_zero (r : ReqV) : rowsT r 0 = rowsP r r.pairs.length := by simp [rowsT]
theorem rowsP_zero (r : ReqV) : rowsP r 0 = rows0 r := by simp [rowsP]
theorem rowsI_zero (r : ReqV) : rowsI r 0 = rowsT r r.types.length ++ [(5, [r.master])] := by simp [rowsI]
theorem rowsI_all (r : ReqV) : rowsI r r.items.length = rowsOf r := by simp [rowsI, rowsT, rowsP, rows0, rowsOf]
theorem rowsP_len (r : ReqV) (k : Nat) (h : k ≤ r.pairs.length) : (rowsP r k).length = 2 + k := by simp [rowsP, rows0]; omega
theorem rowsT_len (r : ReqV) (k : Nat) (h : k ≤ r.types.length) : (rowsT r k).length = 2 + r.pairs.length + k := by simp [rowsT, rowsP, rows0]; omega
theorem rowsI_len (r : ReqV) (k : Nat) (h : k ≤ r.items.length) : (rowsI r k).length = 3 + r.pairs.length + r.types.length + k := by simp [rowsI, rowsT, rowsP, rows0]; omega
theorem keep_cell4 {w w' : World} {a : Addr} {v : Value} (hb : Below w.heap.size w w') (h : w.cell? a = some v) : w'.cell? a = some v := (hb.cell (World.block_lt_of_cell? w _ h)).trans h
theorem keep3 {W w2 : World} {g : Nat} {p1 p2 p3 : Addr} {v1 v2 v3 : Value} (hg : W.grownBy w2 (some g)) (h : W.cell? p1 = some v1 ∧ W.cell? p2 = some v2 ∧ W.cell? p3 = some v3) (h1 : p1.block ≠ g) (h2 : p2.block ≠ g) (h3 : p3.block ≠ g) :
    w2.cell? p1 = some v1 ∧ w2.cell? p2 = some v2 ∧ w2.cell? p3 = some v3 := by
  have one : ∀ (p : Addr) (v : Value), W.cell? p = some v → p.block ≠ g → w2.cell? p = some v := fun p v hv hne =>
    (hg.cell_far p (World.block_lt_of_cell? W _ hv) (fun e => hne (by injection e))).trans hv
  exact ⟨one _ _ h.1 h1, one _ _ h.2.1 h2, one _ _ h.2.2 h3⟩
theorem news2 (w1 : World) (o : Obj) (v : Value) (t : Nat) : ∀ j u, [v][j]? = some u → ((w1.alloc o).alloc (.cells #[v] t)).drew.cell? (Addr.add ⟨w1.heap.size + 1, 0, none⟩ j) = some u := by
  have := cell_one_new (w1.alloc o) v t
  rw [World.size_alloc] at this
  exact this
theorem news1 (w1 : World) (o : Obj) (v : Value) (t : Nat) : ∀ j u, [v][j]? = some u → ((w1.alloc o).alloc (.cells #[v] t)).cell? (Addr.add ⟨w1.heap.size + 1, 0, none⟩ j) = some u := by
  have := cell_one_new (w1.alloc o) v t
  rw [World.size_alloc] at this
  exact this
/-- The rows so far. -/
def AtRows (w : World) (r : ReqV) (h : ReqH) (ls : List (Nat × List Int)) (o1 o2 : Value) (wr : World) : Prop :=
  ∃ gw cw gn cn xs, o1 = .slice (some ⟨gw, 0, none⟩) ls.length cw ∧ o2 = .slice (some ⟨gn, 0, none⟩) ls.length cn ∧ WordsO wr (w.heap.size + 1) gw cw ls ∧ NumsO wr (w.heap.size + 1) gn cn xs ∧ xs.map RowV.l = ls.map Prod.snd ∧ Below w.heap.size w wr ∧ Blk wr w.heap.size (reqCells r h) ∧ w.heap.size < wr.heap.size
/-- A word behind all. -/
theorem AtRows.word {w W1 w1 : World} {r : ReqV} {h : ReqH} {ls : List (Nat × List Int)} {n gw cw gn cn : Nat} {xs : List RowV} {v' : Value} {p : Nat × List Int} (hn : ls.length = n) (hW : WordsO W1 (w.heap.size + 1) gw cw ls) (hN : NumsO W1 (w.heap.size + 1) gn cn xs)
    (hb : Below w.heap.size w W1) (hB : Blk W1 w.heap.size (reqCells r h)) (hz : w.heap.size < W1.heap.size)
    (h1 : w1.ownsRow (w.heap.size + 1) 9 1 v' (n + 1) (ls.map wordV ++ [wordV p])) (h2 : W1.grownBy w1 (some gw)) :
    ∃ g' c', v' = .slice (some ⟨g', 0, none⟩) (n + 1) c' ∧ WordsO w1 (w.heap.size + 1) g' c' (ls ++ [p]) ∧ NumsO w1 (w.heap.size + 1) gn cn xs ∧ Below w.heap.size w w1 ∧ Blk w1 w.heap.size (reqCells r h) ∧ W1.heap.size ≤ w1.heap.size := by
  subst hn
  obtain ⟨g', c', rfl⟩ := own_grew h1
  have hgw : w.heap.size + 1 ≤ gw := own_base hW
  refine ⟨g', c', rfl, ?_, hN.kept hW (by decide) (by decide) h2, grown_below hb h2 (Nat.le_of_lt hz) (by omega), hB.grew hz h2 (by omega), h2.size⟩
  unfold WordsO
  rw [List.length_append, List.map_append]
  exact h1
/-- Its numbers behind all. -/
theorem AtRows.nums {w W2 w2 : World} {r : ReqV} {h : ReqH} {ls ls' : List (Nat × List Int)} {n gw cw gn cn : Nat} {xs : List RowV} {v'' : Value} {p : Nat × List Int} {row : RowV} (hn : ls.length = n) (he : xs.map RowV.l = ls.map Prod.snd) (hl : ls' = ls ++ [p]) (hW : WordsO W2 (w.heap.size + 1) gw cw ls') (hN : NumsO W2 (w.heap.size + 1) gn cn xs)
    (hb : Below w.heap.size w W2) (hB : Blk W2 w.heap.size (reqCells r h)) (hz : w.heap.size < W2.heap.size) (hr : RowV.own W2 (w.heap.size + 1) row) (hrl : row.l = p.2)
    (h1 : w2.ownsRow (w.heap.size + 1) 59 1 v'' (n + 1) (xs.map RowV.val ++ [row.val])) (h2 : W2.grownBy w2 (some gn)) :
    AtRows w r h ls' (.slice (some ⟨gw, 0, none⟩) (n + 1) cw) v'' w2 := by
  subst hn
  subst hl
  have hx : xs.length = ls.length := by simpa using congrArg List.length he
  obtain ⟨g', c', rfl⟩ := own_grew h1
  have hgn : w.heap.size + 1 ≤ gn := own_base hN.out
  rw [← hx] at h1
  refine ⟨gw, cw, g', c', xs ++ [row], by simp, by simp, hW.kept hN.out (by decide) h2, hN.pushed hr h1 h2, by simp [he, hrl], grown_below hb h2 (Nat.le_of_lt hz) (by omega), hB.grew hz h2 (by omega), Nat.lt_of_lt_of_le hz h2.size⟩
theorem AtRows.start {w : World} {r : ReqV} {h : ReqH} : AtRows w r h (rows0 r) (.slice (some ⟨w.heap.size + 1, 0, none⟩) 2 2) (.slice (some ⟨w.heap.size + 1 + 1 + 1 + 1, 0, none⟩) 2 2)
    (((((w.alloc (.cells #[.int .i64 r.way, .int .i64 r.pal.wd, .int .i64 r.pal.dp, .int .i64 r.pal.ht, .int .i64 r.pal.gram, .int .i64 r.classes, .slice h.ap r.pairs.length h.cp, .slice h.at' r.types.length h.ct, .int .i64 r.master, .slice h.ai r.items.length h.ci] 30)).alloc
      (.cells #[.string ⟨#[112, 97, 108, 108, 101, 116]⟩, .string ⟨#[99, 108, 97, 115, 115, 101, 115]⟩] 9)).alloc (.cells #[.int .i64 r.pal.wd, .int .i64 r.pal.dp, .int .i64 r.pal.ht, .int .i64 r.pal.gram] 3)).alloc (.cells #[.int .i64 r.classes] 3)).alloc
      (.cells #[.slice (some ⟨w.heap.size + 1 + 1, 0, none⟩) 4 4, .slice (some ⟨w.heap.size + 1 + 1 + 1, 0, none⟩) 1 1] 59)) := by
  refine ⟨w.heap.size + 1, 2, w.heap.size + 1 + 1 + 1 + 1, 2, [⟨w.heap.size + 1 + 1, 4, r.pal.nums⟩, ⟨w.heap.size + 1 + 1 + 1, 1, [r.classes]⟩], rfl, rfl, ?_, ⟨?_, ?_⟩, rfl, ?_, ?_, ?_⟩
  · have := World.ownsRow_lit (base := w.heap.size + 1) (e := 9) (size := 1) (w.alloc (.cells (reqCells r h).toArray 30)) #[.string ⟨#[112, 97, 108, 108, 101, 116]⟩, .string ⟨#[99, 108, 97, 115, 115, 101, 115]⟩] 2 (by simp) (by unfold maxLen; omega) rfl
    rw [World.size_alloc] at this
    exact ((this.alloc _).alloc _).alloc _
  · have := World.ownsRow_lit (base := w.heap.size + 1) (e := 59) (size := 1) ((((w.alloc (.cells (reqCells r h).toArray 30)).alloc (.cells #[.string ⟨#[112, 97, 108, 108, 101, 116]⟩, .string ⟨#[99, 108, 97, 115, 115, 101, 115]⟩] 9)).alloc (.cells #[.int .i64 r.pal.wd, .int .i64 r.pal.dp, .int .i64 r.pal.ht, .int .i64 r.pal.gram] 3)).alloc (.cells #[.int .i64 r.classes] 3)) #[.slice (some ⟨w.heap.size + 1 + 1, 0, none⟩) 4 4, .slice (some ⟨w.heap.size + 1 + 1 + 1, 0, none⟩) 1 1] 2 (by simp <;> omega) (by unfold maxLen; omega) rfl
    simp only [World.size_alloc] at this
    exact this
  · intro x hx
    simp only [List.mem_cons, List.not_mem_nil, or_false] at hx
    rcases hx with rfl | rfl
    · have := lit_row (w := (w.alloc (.cells (reqCells r h).toArray 30)).alloc (.cells #[.string ⟨#[112, 97, 108, 108, 101, 116]⟩, .string ⟨#[99, 108, 97, 115, 115, 101, 115]⟩] 9)) (B := w.heap.size + 1) r.pal.nums (by simp) (by simp [PalletV.nums])
      simp only [World.size_alloc] at this
      exact (World.ownsRow.alloc (World.ownsRow.alloc this _) _)
    · have := lit_row (w := ((w.alloc (.cells (reqCells r h).toArray 30)).alloc (.cells #[.string ⟨#[112, 97, 108, 108, 101, 116]⟩, .string ⟨#[99, 108, 97, 115, 115, 101, 115]⟩] 9)).alloc (.cells #[.int .i64 r.pal.wd, .int .i64 r.pal.dp, .int .i64 r.pal.ht, .int .i64 r.pal.gram] 3)) (B := w.heap.size + 1) [r.classes] (by simp <;> omega) (by simp)
      simp only [World.size_alloc] at this
      exact World.ownsRow.alloc this _
  · exact (((((Below.refl w.heap.size w).alloc (Nat.le_refl _) _).alloc (by simp) _).alloc (by simp <;> omega) _).alloc (by simp <;> omega) _).alloc (by simp <;> omega) _
  · exact ((((Blk.alloc w (reqCells r h) 30).allocOld (by simp) _).allocOld (by simp <;> omega) _).allocOld (by simp <;> omega) _).allocOld (by simp <;> omega) _
  · simp <;> omega
set_option maxHeartbeats 2000000 in
theorem l4Rows_any (r : ReqV) (h : ReqH) (w : World) (hr : RdReq w r h) (hs : r.small) :
    Calls Tryd.prog 29 #[reqVal r h] w fun e w' => ∃ gw cw gn cn xs, e = .returned (.tuple #[.slice (some ⟨gw, 0, none⟩) (rowsOf r).length cw, .slice (some ⟨gn, 0, none⟩) (rowsOf r).length cn]) ∧ WordsO w' (w.heap.size + 1) gw cw (rowsOf r) ∧ NumsO w' (w.heap.size + 1) gn cn xs ∧ xs.map RowV.l = (rowsOf r).map Prod.snd ∧ Below w.heap.size w w' := by
  obtain ⟨i0, hi0, hz0, hz1, hz2⟩ := info_parts Tryd.infoStr4
  obtain ⟨j0, hj0, hy0, hy1, hy2⟩ := info_parts Tryd.infoIntS4
  unfold ReqV.small at hs
  obtain ⟨ap, aq, ai, cp, ct, ci⟩ := h
  obtain ⟨hp, ht, hi⟩ := hr
  dsimp only at hp ht hi
  have HP := hide hp
  have HT := hide ht
  have HI := hide hi
  clear hp ht hi
  unfold reqVal
  dsimp only
  go_enter Tryd.func29, Tryd.ntmps29
  go_wp2_with fail
  go_loopw [4, 5, 6] (fun o1 o2 i wr => ∃ k : Nat, k ≤ r.pairs.length ∧ i = .int .i64 k ∧ AtRows w r ⟨ap, aq, ai, cp, ct, ci⟩ (rowsP r k) o1 o2 wr) (fun _ _ i _ => r.pairs.length - (intOf i).toNat)
  case atStart => exact ⟨0, Nat.zero_le _, rfl, by rw [rowsP_zero]; exact AtRows.start⟩
  case round =>
    obtain ⟨k, hk, rfl, gw, cw, gn, cn, xs, rfl, rfl, hW, hN, hx, hbel, hB, hz⟩ := hrel
    have hlen := rowsP_len r k hk
    have HST := hide (rowsP_step r k)
    generalize hls : rowsP r k = ls at *
    generalize hln : ls.length = n at *
    have HLN := hide hln
    have HLS := hide hls
    have hxl : xs.length = n := by have := congrArg List.length hx; simp at this; omega
    have HXL := hide hxl
    have hnb : n ≤ 1048600 := by omega
    clear hls hln hxl hlen
    have a6 := (reqFacts hB).2.2.2.2.2.2.1
    dsimp only at a6
    have HW := hide hW
    have HN := hide hN
    have HX := hide hx
    have HB := hide hbel
    have HK := hide hB
    clear hW hN hx hbel hB
    by_cases hlt : k < r.pairs.length
    case pos =>
      obtain ⟨b, off, rfl, hc⟩ := (unhide HP).2 k hlt
      have HC := hide hc
      clear hc
      generalize r.pairs.getD k default = q at *
      have hW1 := hide (WordsO.later (unhide HW) (w' := wr.alloc (.cells #[.string ⟨#[119, 105, 116, 104]⟩] 9)) ((Below.refl _ _).alloc (Nat.le_refl _) _))
      have hWr : (wr.alloc (.cells #[.string ⟨#[119, 105, 116, 104]⟩] 9)).ownsRow (w.heap.size + 1) 9 1 (.slice (some ⟨gw, 0, none⟩) n cw) n (ls.map wordV) := by have := unhide hW1; unfold WordsO at this; rwa [unhide HLN] at this
      have HWr := hide hWr
      clear hWr
      go_wp2_with (first
        | (at_builtin; refine wpList_append_own _ rfl _ _ 38 rfl (w.heap.size + 1) 9 i0 (.string ⟨#[]⟩) 1 16 Tryd.underlying38 hi0 hz0 hz1 hz2 rfl (by decide) (.slice (some ⟨gw, 0, none⟩) n cw) n (ls.map wordV) rfl (by exact unhide HWr) ⟨wr.heap.size, 0, none⟩ 1 1 [.string ⟨#[119, 105, 116, 104]⟩] rfl rfl (cell_one_new _ _ _) (by simp [Value.oneCell']) (by unfold maxLen; omega) (by omega) (by simp; omega) ?_; intro v1 w1 h1 h2 h3)
        | go_in)
      obtain ⟨gw1, cw1, rfl, hW2, hN2, hb2, hB2, hz2⟩ := AtRows.word (r := r) (h := ⟨some ⟨b, off, none⟩, aq, ai, cp, ct, ci⟩) (unhide HLN) (unhide hW1) ((unhide HN).later ((Below.refl _ _).alloc (Nat.le_refl _) _)) ((unhide HB).alloc (Nat.le_of_lt hz) _) ((unhide HK).allocOld hz _) (by simp; omega) (p := (3, q.nums)) h1 h2
      have b6 := (reqFacts hB2).2.2.2.2.2.2.1
      dsimp only at b6
      have c0 : w1.cell? ⟨b, off + k * 2, none⟩ = some (.int .i64 q.a) := keep_cell4 hb2 (unhide HC 0 (by omega))
      have c1 : w1.cell? ⟨b, off + k * 2 + 1, none⟩ = some (.int .i64 q.b) := keep_cell4 hb2 (unhide HC 1 (by omega))
      have HW2 := hide hW2
      have HN2 := hide hN2
      have HB2 := hide hb2
      have HK2 := hide hB2
      have hz3 : w.heap.size < w1.heap.size := by simp at hz2; omega
      have hNr : w1.ownsRow (w.heap.size + 1) 59 1 (.slice (some ⟨gn, 0, none⟩) n cn) n (xs.map RowV.val) := by have := hN2.out; rwa [unhide HXL] at this
      have HNr := hide hNr
      clear hW2 hN2 hb2 hB2 h1 h2 h3 hz2 hNr hW1 HW HN HB HK HWr a6
      go_wp2_with fail
      have hbw : b < w.heap.size := World.block_lt_of_cell? w _ (unhide HC 0 (by omega))
      have hgn : w.heap.size + 1 ≤ gn := own_base (unhide HNr)
      go_region_held_law (fun w' => w'.cell? ⟨w.heap.size, 6, none⟩ = some (.slice (some ⟨b, off, none⟩) r.pairs.length cp) ∧ w'.cell? ⟨b, off + k * 2, none⟩ = some (.int .i64 q.a) ∧ w'.cell? ⟨b, off + k * 2 + 1, none⟩ = some (.int .i64 q.b))
        (first | assumption | exact ⟨b6, c0, c1⟩ | (refine keep3 h2 (by assumption) (by show w.heap.size ≠ gn; omega) (by show b ≠ gn; omega) (by show b ≠ gn; omega)) | go_keep)
        ((refine step_append_lies _ (by rfl) _ _ 70 (by rfl) (w.heap.size + 1) 59 j0 (.slice none 0 0) 1 24 Tryd.underlying70 hj0 hy0 hy1 hy2 rfl (by decide) (.slice (some ⟨gn, 0, none⟩) n cn) n (xs.map RowV.val) (by rfl) (by exact own_later (unhide HNr) ((((Below.refl _ _).alloc (Nat.le_refl _) _).alloc (by simp) _).drew)) ⟨w1.heap.size + 1, 0, none⟩ 1 1 [.slice (some ⟨w1.heap.size, 0, none⟩) 2 2] (by rfl) rfl (news2 _ _ _ _) (by simp [Value.oneCell']) (by omega) (by unfold maxLen; omega) (by omega) (by simp; omega) _ rfl ?_; intro g2 cap2 w2 h1 h2 h3 h4))
      have HO2 := hide h1
      have HG2 := hide h2
      clear h1 h2 h3 h4
      go_wp2_with fail
      go_roundw
      case rel =>
        have bl : Below w1.heap.size w1 ((w1.alloc (.cells #[.int .i64 q.a, .int .i64 q.b] 3)).alloc (.cells #[.slice (some ⟨w1.heap.size, 0, none⟩) 2 2] 59)).drew := (((Below.refl _ _).alloc (Nat.le_refl _) _).alloc (by simp) _).drew
        have hr := lit_row (w := w1) (B := w.heap.size + 1) q.nums (by omega) (by simp [PairV.nums])
        exact ⟨k + 1, by omega, by go_num, AtRows.nums (unhide HLN) (unhide HX) (unhide HST hlt) (by rw [unhide HST hlt]; exact (unhide HW2).later bl) ((unhide HN2).later bl) ((unhide HB2).trans (bl.mono (Nat.le_of_lt hz3))) (Blk.below bl hz3 (unhide HK2)) (by have := bl.size; omega) (hr.later (((Below.refl _ _).alloc (Nat.le_refl _) _).drew)) rfl (unhide HO2) (unhide HG2)⟩
      case measure => simp [intOf]; omega
    case neg =>
      have hk' : k = r.pairs.length := by omega
      have hT0 : rowsT r 0 = ls := by rw [rowsT_zero, ← hk']; exact unhide HLS
      have HT0 := hide hT0
      clear hT0 HST hk'
      go_wp2_with fail
      go_loopw [4, 5, 7] (fun o1 o2 i wr => ∃ k : Nat, k ≤ r.types.length ∧ i = .int .i64 k ∧ AtRows w r ⟨ap, aq, ai, cp, ct, ci⟩ (rowsT r k) o1 o2 wr) (fun _ _ i _ => r.types.length - (intOf i).toNat)
      case atStart => exact ⟨0, Nat.zero_le _, rfl, by rw [unhide HT0]; exact ⟨gw, cw, gn, cn, xs, by rw [unhide HLN], by rw [unhide HLN], unhide HW, unhide HN, unhide HX, unhide HB, unhide HK, hz⟩⟩
      case round =>
        clear HW HN HX HB HK HLN HLS HXL HT0 hz a6
        obtain ⟨k, hk, rfl, gw, cw, gn, cn, xs, rfl, rfl, hW, hN, hx, hbel, hB, hz⟩ := hrel
        have hlen := rowsT_len r k hk
        have HST := hide (rowsT_step r k)
        generalize hls : rowsT r k = ls at *
        generalize hln : ls.length = n at *
        have HLN := hide hln
        have HLS := hide hls
        have hxl : xs.length = n := by have := congrArg List.length hx; simp at this; omega
        have HXL := hide hxl
        have hnb : n ≤ 1048600 := by omega
        clear hls hln hxl hlen
        have a6 := (reqFacts hB).2.2.2.2.2.2.2.1
        dsimp only at a6
        have HW := hide hW
        have HN := hide hN
        have HX := hide hx
        have HB := hide hbel
        have HK := hide hB
        clear hW hN hx hbel hB
        by_cases hlt : k < r.types.length
        case pos =>
          obtain ⟨b, off, rfl, hc⟩ := (unhide HT).2 k hlt
          have HC := hide hc
          clear hc
          generalize r.types.getD k default = q at *
          have c0 : wr.cell? ⟨b, off + k * 7, none⟩ = some (.int .i64 q.id) := keep_cell4 (unhide HB) (unhide HC 0 (by omega))
          have c1 : wr.cell? ⟨b, off + k * 7 + 1, none⟩ = some (.int .i64 q.wd) := keep_cell4 (unhide HB) (unhide HC 1 (by omega))
          have c2 : wr.cell? ⟨b, off + k * 7 + 2, none⟩ = some (.int .i64 q.ht) := keep_cell4 (unhide HB) (unhide HC 2 (by omega))
          have c3 : wr.cell? ⟨b, off + k * 7 + 3, none⟩ = some (.int .i64 q.dp) := keep_cell4 (unhide HB) (unhide HC 3 (by omega))
          have c4 : wr.cell? ⟨b, off + k * 7 + 4, none⟩ = some (.int .i64 q.tare) := keep_cell4 (unhide HB) (unhide HC 4 (by omega))
          have c5 : wr.cell? ⟨b, off + k * 7 + 5, none⟩ = some (.int .i64 q.gram) := keep_cell4 (unhide HB) (unhide HC 5 (by omega))
          have c6 : wr.cell? ⟨b, off + k * 7 + 6, none⟩ = some (.int .i64 q.cost) := keep_cell4 (unhide HB) (unhide HC 6 (by omega))
          have hW1 := hide (WordsO.later (unhide HW) (w' := (wr.alloc (.cells #[.int .i64 q.id, .int .i64 q.wd, .int .i64 q.ht, .int .i64 q.dp, .int .i64 q.tare, .int .i64 q.gram, .int .i64 q.cost] 84)).alloc (.cells #[.string ⟨#[116, 121, 112, 101]⟩] 9)) (((Below.refl _ _).alloc (Nat.le_refl _) _).alloc (by simp) _))
          have hWr : ((wr.alloc (.cells #[.int .i64 q.id, .int .i64 q.wd, .int .i64 q.ht, .int .i64 q.dp, .int .i64 q.tare, .int .i64 q.gram, .int .i64 q.cost] 84)).alloc (.cells #[.string ⟨#[116, 121, 112, 101]⟩] 9)).ownsRow (w.heap.size + 1) 9 1 (.slice (some ⟨gw, 0, none⟩) n cw) n (ls.map wordV) := by have := unhide hW1; unfold WordsO at this; rwa [unhide HLN] at this
          have HWr := hide hWr
          clear hWr
          go_wp2_with (first
            | (
              at_builtin
              refine wpList_append_own _ rfl _ _ 38 rfl (w.heap.size + 1) 9 i0 (.string ⟨#[]⟩) 1 16 Tryd.underlying38 hi0 hz0 hz1 hz2 rfl (by decide) (.slice (some ⟨gw, 0, none⟩) n cw) n (ls.map wordV) rfl (by exact unhide HWr) ⟨wr.heap.size + 1, 0, none⟩ 1 1 [.string ⟨#[116, 121, 112, 101]⟩] rfl rfl (news1 _ _ _ _) (by simp [Value.oneCell']) (by unfold maxLen; omega) (by omega) (by simp; omega) ?_
              intro v1 w1 h1 h2 h3
              have hgl : gw < wr.heap.size := (World.ownsRow.lt (unhide HW) gw rfl).2
              obtain ⟨gw1, cw1, rfl, hW2, hN2, hb2, hB2, hz2⟩ := AtRows.word (r := r) (h := ⟨ap, some ⟨b, off, none⟩, ai, cp, ct, ci⟩) (unhide HLN) (unhide hW1) ((unhide HN).later (((Below.refl _ _).alloc (Nat.le_refl _) _).alloc (by simp) _)) (((unhide HB).alloc (Nat.le_of_lt hz) _).alloc (by simp; omega) _) (((unhide HK).allocOld hz _).allocOld (by simp; omega) _) (by simp; omega) (p := (4, q.nums)) h1 h2
              have hBx : Blk w1 wr.heap.size (TypeV.cells q) := ((Blk.alloc wr (TypeV.cells q) 84).allocOld (by simp) _).grew (by simp; omega) h2 (by show wr.heap.size ≠ gw; omega)
              have d0 : w1.cell? ⟨wr.heap.size, 0, none⟩ = some (.int .i64 q.id) := (hBx 0 (by simp [TypeV.cells])).1
              have d1 : w1.cell? ⟨wr.heap.size, 1, none⟩ = some (.int .i64 q.wd) := (hBx 1 (by simp [TypeV.cells])).1
              have d2 : w1.cell? ⟨wr.heap.size, 2, none⟩ = some (.int .i64 q.ht) := (hBx 2 (by simp [TypeV.cells])).1
              have d3 : w1.cell? ⟨wr.heap.size, 3, none⟩ = some (.int .i64 q.dp) := (hBx 3 (by simp [TypeV.cells])).1
              have d4 : w1.cell? ⟨wr.heap.size, 4, none⟩ = some (.int .i64 q.tare) := (hBx 4 (by simp [TypeV.cells])).1
              have d5 : w1.cell? ⟨wr.heap.size, 5, none⟩ = some (.int .i64 q.gram) := (hBx 5 (by simp [TypeV.cells])).1
              have d6 : w1.cell? ⟨wr.heap.size, 6, none⟩ = some (.int .i64 q.cost) := (hBx 6 (by simp [TypeV.cells])).1
              have HW2 := hide hW2
              have HN2 := hide hN2
              have HB2 := hide hb2
              have HK2 := hide hB2
              have hz3 : w.heap.size < w1.heap.size := by simp at hz2; omega
              have hNr : w1.ownsRow (w.heap.size + 1) 59 1 (.slice (some ⟨gn, 0, none⟩) n cn) n (xs.map RowV.val) := by have := hN2.out; rwa [unhide HXL] at this
              have HNr := hide hNr
              clear hW2 hN2 hb2 hB2 h1 h2 h3 hz2 hNr hW1 HW HN HB HK HWr a6 c0 c1 c2 c3 c4 c5 c6 hBx)
            | (at_builtin; refine wpList_append_own _ rfl _ _ 70 rfl (w.heap.size + 1) 59 j0 (.slice none 0 0) 1 24 Tryd.underlying70 hj0 hy0 hy1 hy2 rfl (by decide) (.slice (some ⟨gn, 0, none⟩) n cn) n (xs.map RowV.val) rfl (by exact own_later (unhide HNr) (((Below.refl _ _).alloc (Nat.le_refl _) _).alloc (by simp) _)) ⟨w1.heap.size + 1, 0, none⟩ 1 1 [.slice (some ⟨w1.heap.size, 0, none⟩) 7 7] rfl rfl (news1 _ _ _ _) (by simp [Value.oneCell']) (by unfold maxLen; omega) (by omega) (by simp; omega) ?_; intro v2 w2 h1 h2 h3; have HO2 := hide h1; have HG2 := hide h2; clear h1 h2 h3)
            | go_in)
          have hend : AtRows w r ⟨ap, some ⟨b, off, none⟩, ai, cp, ct, ci⟩ (rowsT r (k + 1)) (.slice (some ⟨gw1, 0, none⟩) (n + 1) cw1) v2 w2 := by
            have bl : Below w1.heap.size w1 ((w1.alloc (.cells #[.int .i64 q.id, .int .i64 q.wd, .int .i64 q.ht, .int .i64 q.dp, .int .i64 q.tare, .int .i64 q.gram, .int .i64 q.cost] 3)).alloc (.cells #[.slice (some ⟨w1.heap.size, 0, none⟩) 7 7] 59)) := ((Below.refl _ _).alloc (Nat.le_refl _) _).alloc (by simp) _
            have hr := lit_row (w := w1) (B := w.heap.size + 1) (TypeV.nums q) (by omega) (by simp [TypeV.nums])
            exact AtRows.nums (unhide HLN) (unhide HX) (unhide HST hlt) (by rw [(unhide HST hlt)]; exact (unhide HW2).later bl) ((unhide HN2).later bl) ((unhide HB2).trans (bl.mono (Nat.le_of_lt hz3))) (Blk.below bl hz3 (unhide HK2)) (by have := bl.size; omega) (hr.later ((Below.refl _ _).alloc (Nat.le_refl _) _)) rfl (unhide HO2) (unhide HG2)
          go_wp2_with fail
          go_roundw
          case rel => exact ⟨k + 1, by omega, by go_num, hend⟩
          case measure => simp [intOf]; omega
        case neg =>
          have hk' : k = r.types.length := by omega
          have hI0 : rowsT r r.types.length = ls := by rw [← hk']; exact unhide HLS
          have HI0 := hide hI0
          clear hI0 HST hk'
          have hW1 := hide (WordsO.later (unhide HW) (w' := wr.alloc (.cells #[.string ⟨#[109, 97, 115, 116, 101, 114]⟩] 9)) ((Below.refl _ _).alloc (Nat.le_refl _) _))
          have hWr : (wr.alloc (.cells #[.string ⟨#[109, 97, 115, 116, 101, 114]⟩] 9)).ownsRow (w.heap.size + 1) 9 1 (.slice (some ⟨gw, 0, none⟩) n cw) n (ls.map wordV) := by have := unhide hW1; unfold WordsO at this; rwa [unhide HLN] at this
          have HWr := hide hWr
          clear hWr
          go_wp2_with (first
            | (
              at_builtin
              refine wpList_append_own _ rfl _ _ 38 rfl (w.heap.size + 1) 9 i0 (.string ⟨#[]⟩) 1 16 Tryd.underlying38 hi0 hz0 hz1 hz2 rfl (by decide) (.slice (some ⟨gw, 0, none⟩) n cw) n (ls.map wordV) rfl (by exact unhide HWr) ⟨wr.heap.size, 0, none⟩ 1 1 [.string ⟨#[109, 97, 115, 116, 101, 114]⟩] rfl rfl (cell_one_new _ _ _) (by simp [Value.oneCell']) (by unfold maxLen; omega) (by omega) (by simp; omega) ?_
              intro v1 w1 h1 h2 h3
              have hgl : gw < wr.heap.size := (World.ownsRow.lt (unhide HW) gw rfl).2
              obtain ⟨gw1, cw1, rfl, hW2, hN2, hb2, hB2, hz2⟩ := AtRows.word (r := r) (h := ⟨ap, aq, ai, cp, ct, ci⟩) (unhide HLN) (unhide hW1) ((unhide HN).later ((Below.refl _ _).alloc (Nat.le_refl _) _)) ((unhide HB).alloc (Nat.le_of_lt hz) _) ((unhide HK).allocOld hz _) (by simp; omega) (p := (5, [r.master])) h1 h2
              have a8 := (reqFacts hB2).2.2.2.2.2.2.2.2.1
              have HW2 := hide hW2
              have HN2 := hide hN2
              have HB2 := hide hb2
              have HK2 := hide hB2
              have hz3 : w.heap.size < w1.heap.size := by simp at hz2; omega
              have hNr : w1.ownsRow (w.heap.size + 1) 59 1 (.slice (some ⟨gn, 0, none⟩) n cn) n (xs.map RowV.val) := by have := hN2.out; rwa [unhide HXL] at this
              have HNr := hide hNr
              clear hW2 hN2 hb2 hB2 h1 h2 h3 hz2 hNr hW1 HW HN HB HK HWr a6 )
            | (at_builtin; refine wpList_append_own _ rfl _ _ 70 rfl (w.heap.size + 1) 59 j0 (.slice none 0 0) 1 24 Tryd.underlying70 hj0 hy0 hy1 hy2 rfl (by decide) (.slice (some ⟨gn, 0, none⟩) n cn) n (xs.map RowV.val) rfl (by exact own_later (unhide HNr) (((Below.refl _ _).alloc (Nat.le_refl _) _).alloc (by simp) _)) ⟨w1.heap.size + 1, 0, none⟩ 1 1 [.slice (some ⟨w1.heap.size, 0, none⟩) 1 1] rfl rfl (news1 _ _ _ _) (by simp [Value.oneCell']) (by unfold maxLen; omega) (by omega) (by simp; omega) ?_; intro v2 w2 h1 h2 h3; have HO2 := hide h1; have HG2 := hide h2; clear h1 h2 h3)
            | go_in)
          have hend : AtRows w r ⟨ap, aq, ai, cp, ct, ci⟩ (rowsT r r.types.length ++ [(5, [r.master])]) (.slice (some ⟨gw1, 0, none⟩) (n + 1) cw1) v2 w2 := by
            have bl : Below w1.heap.size w1 ((w1.alloc (.cells #[.int .i64 r.master] 3)).alloc (.cells #[.slice (some ⟨w1.heap.size, 0, none⟩) 1 1] 59)) := ((Below.refl _ _).alloc (Nat.le_refl _) _).alloc (by simp) _
            have hr := lit_row (w := w1) (B := w.heap.size + 1) [r.master] (by omega) (by simp [List.length_cons])
            exact AtRows.nums (unhide HLN) (unhide HX) (show rowsT r r.types.length ++ [(5, [r.master])] = ls ++ [(5, [r.master])] by rw [unhide HI0]) (by rw [(show rowsT r r.types.length ++ [(5, [r.master])] = ls ++ [(5, [r.master])] by rw [unhide HI0])]; exact (unhide HW2).later bl) ((unhide HN2).later bl) ((unhide HB2).trans (bl.mono (Nat.le_of_lt hz3))) (Blk.below bl hz3 (unhide HK2)) (by have := bl.size; omega) (hr.later ((Below.refl _ _).alloc (Nat.le_refl _) _)) rfl (unhide HO2) (unhide HG2)
          have HEND := hide hend
          clear hend HW2 HN2 HB2 HK2 HNr HX HXL HLN HLS HI0
          go_wp2_with fail
          go_loopw [4, 5, 9] (fun o1 o2 i wr => ∃ k : Nat, k ≤ r.items.length ∧ i = .int .i64 k ∧ AtRows w r ⟨ap, aq, ai, cp, ct, ci⟩ (rowsI r k) o1 o2 wr) (fun _ _ i _ => r.items.length - (intOf i).toNat)
          case atStart => exact ⟨0, Nat.zero_le _, rfl, by rw [rowsI_zero]; exact unhide HEND⟩
          case round =>
            clear HEND
            obtain ⟨k, hk, rfl, gw, cw, gn, cn, xs, rfl, rfl, hW, hN, hx, hbel, hB, hz⟩ := hrel
            have hlen := rowsI_len r k hk
            have HST := hide (rowsI_step r k)
            generalize hls : rowsI r k = ls at *
            generalize hln : ls.length = n at *
            have HLN := hide hln
            have HLS := hide hls
            have hxl : xs.length = n := by have := congrArg List.length hx; simp at this; omega
            have HXL := hide hxl
            have hnb : n ≤ 1048600 := by omega
            clear hls hln hxl hlen
            have a6 := (reqFacts hB).2.2.2.2.2.2.2.2.2
            dsimp only at a6
            have HW := hide hW
            have HN := hide hN
            have HX := hide hx
            have HB := hide hbel
            have HK := hide hB
            clear hW hN hx hbel hB
            by_cases hlt : k < r.items.length
            case pos =>
              obtain ⟨b, off, rfl, hc⟩ := (unhide HI).2 k hlt
              have HC := hide hc
              clear hc
              generalize r.items.getD k default = q at *
              have c0 : wr.cell? ⟨b, off + k * 7, none⟩ = some (.int .i64 q.id) := keep_cell4 (unhide HB) (unhide HC 0 (by omega))
              have c1 : wr.cell? ⟨b, off + k * 7 + 1, none⟩ = some (.int .i64 q.wd) := keep_cell4 (unhide HB) (unhide HC 1 (by omega))
              have c2 : wr.cell? ⟨b, off + k * 7 + 2, none⟩ = some (.int .i64 q.ht) := keep_cell4 (unhide HB) (unhide HC 2 (by omega))
              have c3 : wr.cell? ⟨b, off + k * 7 + 3, none⟩ = some (.int .i64 q.dp) := keep_cell4 (unhide HB) (unhide HC 3 (by omega))
              have c4 : wr.cell? ⟨b, off + k * 7 + 4, none⟩ = some (.int .i64 q.gram) := keep_cell4 (unhide HB) (unhide HC 4 (by omega))
              have c5 : wr.cell? ⟨b, off + k * 7 + 5, none⟩ = some (.int .i64 q.cls) := keep_cell4 (unhide HB) (unhide HC 5 (by omega))
              have c6 : wr.cell? ⟨b, off + k * 7 + 6, none⟩ = some (.int .i64 q.cnt) := keep_cell4 (unhide HB) (unhide HC 6 (by omega))
              have hW1 := hide (WordsO.later (unhide HW) (w' := (wr.alloc (.cells #[.int .i64 q.id, .int .i64 q.wd, .int .i64 q.ht, .int .i64 q.dp, .int .i64 q.gram, .int .i64 q.cls, .int .i64 q.cnt] 86)).alloc (.cells #[.string ⟨#[105, 116, 101, 109]⟩] 9)) (((Below.refl _ _).alloc (Nat.le_refl _) _).alloc (by simp) _))
              have hWr : ((wr.alloc (.cells #[.int .i64 q.id, .int .i64 q.wd, .int .i64 q.ht, .int .i64 q.dp, .int .i64 q.gram, .int .i64 q.cls, .int .i64 q.cnt] 86)).alloc (.cells #[.string ⟨#[105, 116, 101, 109]⟩] 9)).ownsRow (w.heap.size + 1) 9 1 (.slice (some ⟨gw, 0, none⟩) n cw) n (ls.map wordV) := by have := unhide hW1; unfold WordsO at this; rwa [unhide HLN] at this
              have HWr := hide hWr
              clear hWr
              go_wp2_with (first
                | (
                  at_builtin
                  refine wpList_append_own _ rfl _ _ 38 rfl (w.heap.size + 1) 9 i0 (.string ⟨#[]⟩) 1 16 Tryd.underlying38 hi0 hz0 hz1 hz2 rfl (by decide) (.slice (some ⟨gw, 0, none⟩) n cw) n (ls.map wordV) rfl (by exact unhide HWr) ⟨wr.heap.size + 1, 0, none⟩ 1 1 [.string ⟨#[105, 116, 101, 109]⟩] rfl rfl (news1 _ _ _ _) (by simp [Value.oneCell']) (by unfold maxLen; omega) (by omega) (by simp; omega) ?_
                  intro v1 w1 h1 h2 h3
                  have hgl : gw < wr.heap.size := (World.ownsRow.lt (unhide HW) gw rfl).2
                  obtain ⟨gw1, cw1, rfl, hW2, hN2, hb2, hB2, hz2⟩ := AtRows.word (r := r) (h := ⟨ap, aq, some ⟨b, off, none⟩, cp, ct, ci⟩) (unhide HLN) (unhide hW1) ((unhide HN).later (((Below.refl _ _).alloc (Nat.le_refl _) _).alloc (by simp) _)) (((unhide HB).alloc (Nat.le_of_lt hz) _).alloc (by simp; omega) _) (((unhide HK).allocOld hz _).allocOld (by simp; omega) _) (by simp; omega) (p := (6, q.nums)) h1 h2
                  have hBx : Blk w1 wr.heap.size (ItemV.cells q) := ((Blk.alloc wr (ItemV.cells q) 86).allocOld (by simp) _).grew (by simp; omega) h2 (by show wr.heap.size ≠ gw; omega)
                  have d0 : w1.cell? ⟨wr.heap.size, 0, none⟩ = some (.int .i64 q.id) := (hBx 0 (by simp [ItemV.cells])).1
                  have d1 : w1.cell? ⟨wr.heap.size, 1, none⟩ = some (.int .i64 q.wd) := (hBx 1 (by simp [ItemV.cells])).1
                  have d2 : w1.cell? ⟨wr.heap.size, 2, none⟩ = some (.int .i64 q.ht) := (hBx 2 (by simp [ItemV.cells])).1
                  have d3 : w1.cell? ⟨wr.heap.size, 3, none⟩ = some (.int .i64 q.dp) := (hBx 3 (by simp [ItemV.cells])).1
                  have d4 : w1.cell? ⟨wr.heap.size, 4, none⟩ = some (.int .i64 q.gram) := (hBx 4 (by simp [ItemV.cells])).1
                  have d5 : w1.cell? ⟨wr.heap.size, 5, none⟩ = some (.int .i64 q.cls) := (hBx 5 (by simp [ItemV.cells])).1
                  have d6 : w1.cell? ⟨wr.heap.size, 6, none⟩ = some (.int .i64 q.cnt) := (hBx 6 (by simp [ItemV.cells])).1
                  have HW2 := hide hW2
                  have HN2 := hide hN2
                  have HB2 := hide hb2
                  have HK2 := hide hB2
                  have hz3 : w.heap.size < w1.heap.size := by simp at hz2; omega
                  have hNr : w1.ownsRow (w.heap.size + 1) 59 1 (.slice (some ⟨gn, 0, none⟩) n cn) n (xs.map RowV.val) := by have := hN2.out; rwa [unhide HXL] at this
                  have HNr := hide hNr
                  clear hW2 hN2 hb2 hB2 h1 h2 h3 hz2 hNr hW1 HW HN HB HK HWr a6 c0 c1 c2 c3 c4 c5 c6 hBx)
                | (at_builtin; refine wpList_append_own _ rfl _ _ 70 rfl (w.heap.size + 1) 59 j0 (.slice none 0 0) 1 24 Tryd.underlying70 hj0 hy0 hy1 hy2 rfl (by decide) (.slice (some ⟨gn, 0, none⟩) n cn) n (xs.map RowV.val) rfl (by exact own_later (unhide HNr) (((Below.refl _ _).alloc (Nat.le_refl _) _).alloc (by simp) _)) ⟨w1.heap.size + 1, 0, none⟩ 1 1 [.slice (some ⟨w1.heap.size, 0, none⟩) 7 7] rfl rfl (news1 _ _ _ _) (by simp [Value.oneCell']) (by unfold maxLen; omega) (by omega) (by simp; omega) ?_; intro v2 w2 h1 h2 h3; have HO2 := hide h1; have HG2 := hide h2; clear h1 h2 h3)
                | go_in)
              have hend : AtRows w r ⟨ap, aq, some ⟨b, off, none⟩, cp, ct, ci⟩ (rowsI r (k + 1)) (.slice (some ⟨gw1, 0, none⟩) (n + 1) cw1) v2 w2 := by
                have bl : Below w1.heap.size w1 ((w1.alloc (.cells #[.int .i64 q.id, .int .i64 q.wd, .int .i64 q.ht, .int .i64 q.dp, .int .i64 q.gram, .int .i64 q.cls, .int .i64 q.cnt] 3)).alloc (.cells #[.slice (some ⟨w1.heap.size, 0, none⟩) 7 7] 59)) := ((Below.refl _ _).alloc (Nat.le_refl _) _).alloc (by simp) _
                have hr := lit_row (w := w1) (B := w.heap.size + 1) (ItemV.nums q) (by omega) (by simp [ItemV.nums])
                exact AtRows.nums (unhide HLN) (unhide HX) (unhide HST hlt) (by rw [(unhide HST hlt)]; exact (unhide HW2).later bl) ((unhide HN2).later bl) ((unhide HB2).trans (bl.mono (Nat.le_of_lt hz3))) (Blk.below bl hz3 (unhide HK2)) (by have := bl.size; omega) (hr.later ((Below.refl _ _).alloc (Nat.le_refl _) _)) rfl (unhide HO2) (unhide HG2)
              go_wp2_with fail
              go_roundw
              case rel => exact ⟨k + 1, by omega, by go_num, hend⟩
              case measure => simp [intOf]; omega
            case neg =>
              have hk' : k = r.items.length := by omega
              have hall : rowsOf r = ls := by rw [← rowsI_all, ← hk']; exact unhide HLS
              clear HST
              go_wp2_with fail
              go_ret2
              exact ⟨gw, cw, gn, cn, xs, by rw [hall, unhide HLN]; rfl, hall ▸ unhide HW, unhide HN, hall ▸ unhide HX, unhide HB⟩
end Go.Proofs.YtbdpnmlhabliaaaDoor
