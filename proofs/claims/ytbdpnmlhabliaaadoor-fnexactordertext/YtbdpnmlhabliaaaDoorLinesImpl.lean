/- The program's lines of an order. -/
import Derived.Test.YtbdpnmlhabliaaaDoorTextImpl
namespace Go.Proofs.YtbdpnmlhabliaaaDoor
open Go.RowKit
set_option linter.unusedVariables false
set_option maxRecDepth 20000
structure LineV where (k : Nat) (row : RowV)
deriving Inhabited
def LineV.cells (x : LineV) : List Value := [.int .i64 x.k, x.row.val]
def LineV.pair (x : LineV) : Nat × List Int := (x.k, x.row.l)
structure LinesO (w : World) (B g cap : Nat) (xs : List LineV) : Prop where
  out : w.ownsRow B 61 2 (.slice (some ⟨g, 0, none⟩) xs.length cap) xs.length (xs.flatMap LineV.cells)
  rows : ∀ x ∈ xs, RowV.own w B x.row
theorem LinesO.later {w w' : World} {B g cap : Nat} {xs : List LineV} (h : LinesO w B g cap xs) (hb : Below w.heap.size w w') : LinesO w' B g cap xs :=
  ⟨own_later h.out hb, fun x hx => (h.rows x hx).later hb⟩
theorem LinesO.others {w w' : World} {B g cap b : Nat} {xs : List LineV} (h : LinesO w B g cap xs) (hk : Lib.OthersKept 5 (some b) w w') (hb : b < B) : LinesO w' B g cap xs :=
  ⟨own_others h.out hk (by decide) (fun e => by have := own_base h.out; injection e with e; have e : g = b := e; omega), fun x hx => own_others (h.rows x hx) hk (by decide) (fun e => by have := (h.rows x hx).lt.1; injection e with e; have e : x.row.g = b := e; omega)⟩
theorem LinesO.pushed {w w' : World} {B g cap g' cap' : Nat} {xs : List LineV} {y : LineV} (h : LinesO w B g cap xs) (hr : RowV.own w B y.row)
    (ho : w'.ownsRow B 61 2 (.slice (some ⟨g', 0, none⟩) (xs.length + 1) cap') (xs.length + 1) (xs.flatMap LineV.cells ++ LineV.cells y)) (hg : w.grownBy w' (some g)) : LinesO w' B g' cap' (xs ++ [y]) := by
  have hk : ∀ x, RowV.own w B x → RowV.own w' B x := fun x hx => hx.kept hg (fun e' => own_ne h.out hx (by decide) (by injection e' with e'; exact e'.symm))
  refine ⟨?_, fun x hx => ?_⟩
  · rw [List.length_append, List.flatMap_append]
    simpa using ho
  · rcases List.mem_append.1 hx with hx | hx
    · exact hk _ (h.rows x hx)
    · rw [List.mem_singleton.1 hx]
      exact hk _ hr
theorem flat_cell : ∀ (xs : List LineV) (i j : Nat), i < xs.length → j < 2 → (xs.flatMap LineV.cells)[i * 2 + j]? = (LineV.cells (xs.getD i default))[j]?
  | [], i, j, hi, _ => by simp at hi
  | x :: xs, 0, j, _, hj => by
    have : (LineV.cells x).length = 2 := rfl
    rw [List.flatMap_cons, List.getElem?_append_left (by omega)]
    simp
  | x :: xs, i + 1, j, hi, hj => by
    have h2 : (LineV.cells x).length = 2 := rfl
    rw [List.flatMap_cons, List.getElem?_append_right (by omega), h2]
    have e : (i + 1) * 2 + j - 2 = i * 2 + j := by omega
    rw [e, flat_cell xs i j (by simpa using hi) hj]
    simp
theorem LinesO.read {w : World} {B g cap : Nat} {xs : List LineV} (h : LinesO w B g cap xs) (i : Nat) (hi : i < xs.length) :
    w.cell? ⟨g, i * 2, none⟩ = some (.int .i64 (xs.getD i default).k) ∧ w.cell? ⟨g, i * 2 + 1, none⟩ = some (xs.getD i default).row.val ∧ RowV.own w B (xs.getD i default).row :=
  ⟨(h.out.cellAt (i * 2) (by omega)).trans (flat_cell xs i 0 hi (by omega)), (h.out.cellAt (i * 2 + 1) (by omega)).trans (flat_cell xs i 1 hi (by omega)), h.rows _ (getD_mem' xs i hi)⟩
theorem news3 (w : World) (o1 o2 : Obj) (cs : Array Value) (t : Nat) : ∀ j u, cs.toList[j]? = some u → (((w.alloc o1).alloc o2).alloc (.cells cs t)).cell? (Addr.add ⟨w.heap.size + 1 + 1, 0, none⟩ j) = some u := by
  have := World.news_of_block (heap_alloc_new ((w.alloc o1).alloc o2) (.cells cs t))
  simp only [World.size_alloc] at this
  exact this
theorem news2' (w : World) (o1 : Obj) (cs : Array Value) (t : Nat) : ∀ j u, cs.toList[j]? = some u → ((w.alloc o1).alloc (.cells cs t)).cell? (Addr.add ⟨w.heap.size + 1, 0, none⟩ j) = some u := by
  have := World.news_of_block (heap_alloc_new (w.alloc o1) (.cells cs t))
  simp only [World.size_alloc] at this
  exact this
def AtLines (w : World) (r : ReqV) (h : ReqH) (ls : List (Nat × List Int)) (o : Value) (wr : World) : Prop :=
  ∃ g cap xs, o = .slice (some ⟨g, 0, none⟩) ls.length cap ∧ LinesO wr (w.heap.size + 1) g cap xs ∧ xs.map LineV.pair = ls ∧ Below w.heap.size w wr ∧ Blk wr w.heap.size (reqCells r h) ∧ w.heap.size < wr.heap.size
theorem AtLines.push {w W w2 : World} {r : ReqV} {h : ReqH} {ls : List (Nat × List Int)} {n g cap : Nat} {xs : List LineV} {v' : Value} {y : LineV} (hn : ls.length = n) (he : xs.map LineV.pair = ls) (hL : LinesO W (w.heap.size + 1) g cap xs)
    (hb : Below w.heap.size w W) (hB : Blk W w.heap.size (reqCells r h)) (hz : w.heap.size < W.heap.size) (hr : RowV.own W (w.heap.size + 1) y.row)
    (h1 : w2.ownsRow (w.heap.size + 1) 61 2 v' (n + 1) (xs.flatMap LineV.cells ++ LineV.cells y)) (h2 : W.grownBy w2 (some g)) : AtLines w r h (ls ++ [y.pair]) v' w2 := by
  subst hn
  have hx : xs.length = ls.length := by rw [← he]; simp
  obtain ⟨g', c', rfl⟩ := own_grew h1
  have hg : w.heap.size + 1 ≤ g := own_base hL.out
  rw [← hx] at h1
  exact ⟨g', c', xs ++ [y], by simp, hL.pushed hr h1 h2, by simp [he], grown_below hb h2 (Nat.le_of_lt hz) (by omega), hB.grew hz h2 (by omega), Nat.lt_of_lt_of_le hz h2.size⟩
theorem AtLines.blk {w wr : World} {r : ReqV} {h : ReqH} {ls : List (Nat × List Int)} {o : Value} (hA : AtLines w r h ls o wr) : Blk wr w.heap.size (reqCells r h) := by
  obtain ⟨_, _, _, _, _, _, _, hB, _⟩ := hA
  exact hB
def wayL (r : ReqV) : Nat × List Int := (0, [r.way])
theorem AtLines.start {w : World} {r : ReqV} {h : ReqH} : AtLines w r h (wayL r :: rowsP r 0) (.slice (some ⟨w.heap.size + 1 + 1 + 1 + 1, 0, none⟩) 3 3)
    (((((w.alloc (.cells #[.int .i64 r.way, .int .i64 r.pal.wd, .int .i64 r.pal.dp, .int .i64 r.pal.ht, .int .i64 r.pal.gram, .int .i64 r.classes, .slice h.ap r.pairs.length h.cp, .slice h.at' r.types.length h.ct, .int .i64 r.master, .slice h.ai r.items.length h.ci] 30)).alloc
      (.cells #[.int .i64 r.way] 3)).alloc (.cells #[.int .i64 r.pal.wd, .int .i64 r.pal.dp, .int .i64 r.pal.ht, .int .i64 r.pal.gram] 3)).alloc (.cells #[.int .i64 r.classes] 3)).alloc
      (.cells #[.int .i64 0, .slice (some ⟨w.heap.size + 1, 0, none⟩) 1 1, .int .i64 1, .slice (some ⟨w.heap.size + 1 + 1, 0, none⟩) 4 4, .int .i64 2, .slice (some ⟨w.heap.size + 1 + 1 + 1, 0, none⟩) 1 1] 61)) := by
  rw [rowsP_zero]
  refine ⟨w.heap.size + 1 + 1 + 1 + 1, 3, [⟨0, ⟨w.heap.size + 1, 1, [r.way]⟩⟩, ⟨1, ⟨w.heap.size + 1 + 1, 4, r.pal.nums⟩⟩, ⟨2, ⟨w.heap.size + 1 + 1 + 1, 1, [r.classes]⟩⟩], rfl, ⟨?_, ?_⟩, rfl, ?_, ?_, ?_⟩
  · have := World.ownsRow_lit (base := w.heap.size + 1) (e := 61) (size := 2) ((((w.alloc (.cells (reqCells r h).toArray 30)).alloc (.cells #[.int .i64 r.way] 3)).alloc (.cells #[.int .i64 r.pal.wd, .int .i64 r.pal.dp, .int .i64 r.pal.ht, .int .i64 r.pal.gram] 3)).alloc (.cells #[.int .i64 r.classes] 3)) #[.int .i64 0, .slice (some ⟨w.heap.size + 1, 0, none⟩) 1 1, .int .i64 1, .slice (some ⟨w.heap.size + 1 + 1, 0, none⟩) 4 4, .int .i64 2, .slice (some ⟨w.heap.size + 1 + 1 + 1, 0, none⟩) 1 1] 3 (by simp <;> omega) (by unfold maxLen; omega) rfl
    simp only [World.size_alloc] at this
    exact this
  · intro x hx
    simp only [List.mem_cons, List.not_mem_nil, or_false] at hx
    rcases hx with rfl | rfl | rfl
    · have := lit_row (w := w.alloc (.cells (reqCells r h).toArray 30)) (B := w.heap.size + 1) [r.way] (by simp) (by simp)
      simp only [World.size_alloc] at this
      exact World.ownsRow.alloc (World.ownsRow.alloc (World.ownsRow.alloc this _) _) _
    · have := lit_row (w := (w.alloc (.cells (reqCells r h).toArray 30)).alloc (.cells #[.int .i64 r.way] 3)) (B := w.heap.size + 1) r.pal.nums (by simp) (by simp [PalletV.nums])
      simp only [World.size_alloc] at this
      exact World.ownsRow.alloc (World.ownsRow.alloc this _) _
    · have := lit_row (w := ((w.alloc (.cells (reqCells r h).toArray 30)).alloc (.cells #[.int .i64 r.way] 3)).alloc (.cells #[.int .i64 r.pal.wd, .int .i64 r.pal.dp, .int .i64 r.pal.ht, .int .i64 r.pal.gram] 3)) (B := w.heap.size + 1) [r.classes] (by simp <;> omega) (by simp)
      simp only [World.size_alloc] at this
      exact World.ownsRow.alloc this _
  · exact (((((Below.refl w.heap.size w).alloc (Nat.le_refl _) _).alloc (by simp) _).alloc (by simp <;> omega) _).alloc (by simp <;> omega) _).alloc (by simp <;> omega) _
  · exact ((((Blk.alloc w (reqCells r h) 30).allocOld (by simp) _).allocOld (by simp <;> omega) _).allocOld (by simp <;> omega) _).allocOld (by simp <;> omega) _
  · simp <;> omega
theorem Tryd.infoLine : (Tryd.prog.info? 61).map (fun i => (i.zero, i.size, i.bytes)) = some (some (.agg #[.int .i64 0, .slice none 0 0]), 2, 32) := by kernel_rfl
set_option maxHeartbeats 2000000 in
theorem linesOf_any (r : ReqV) (h : ReqH) (w : World) (hr : RdReq w r h) (hs : r.small) :
    Calls Tryd.prog 24 #[reqVal r h] w fun e w' => ∃ g cap xs, e = .returned (.slice (some ⟨g, 0, none⟩) (linesR r).length cap) ∧ LinesO w' (w.heap.size + 1) g cap xs ∧ xs.map LineV.pair = linesR r ∧ Below w.heap.size w w' := by
  obtain ⟨i0, hi0, hz0, hz1, hz2⟩ := info_parts Tryd.infoLine
  unfold ReqV.small at hs
  obtain ⟨ap, aq, ai, cp, ct, ci⟩ := h
  obtain ⟨hp, ht, hi⟩ := hr
  dsimp only at hp ht hi
  have HP := hide hp
  have HT := hide ht
  have HI := hide hi
  clear hp ht hi
  unfold reqVal
  dsimp only
  go_enter Tryd.func24, Tryd.ntmps24
  go_wp2_with fail
  go_loopw [3, 36] (fun o i wr => ∃ k : Nat, k ≤ r.pairs.length ∧ i = .int .i64 k ∧ AtLines w r ⟨ap, aq, ai, cp, ct, ci⟩ (wayL r :: rowsP r k) o wr) (fun _ i _ => r.pairs.length - (intOf i).toNat)
  case atStart => exact ⟨0, Nat.zero_le _, rfl, AtLines.start⟩
  case round =>
    obtain ⟨k, hk, rfl, g, cap, xs, rfl, hL, hx, hbel, hB, hz⟩ := hrel
    have hlen := rowsP_len r k hk
    have HST := hide (rowsP_step r k)
    generalize hls : wayL r :: rowsP r k = ls at *
    have hln : ls.length = (rowsP r k).length + 1 := by rw [← hls]; rfl
    generalize hln' : ls.length = n at *
    have HLN := hide hln'
    have HLS := hide hls
    have hxl : xs.length = n := by rw [← hln', ← hx]; simp
    have HXL := hide hxl
    have hnb : n ≤ 1048600 := by omega
    clear hls hln hln' hxl hlen
    have HL := hide hL
    have HX := hide hx
    have HB := hide hbel
    have HK := hide hB
    clear hL hx hbel
    by_cases hlt : k < r.pairs.length
    case pos =>
      obtain ⟨b, off, rfl, hc⟩ := (unhide HP).2 k hlt
      have HC := hide hc
      clear hc hB
      generalize r.pairs.getD k default = q at *
      have c0 : wr.cell? ⟨b, off + k * 2, none⟩ = some (.int .i64 q.a) := keep_cell4 (unhide HB) (unhide HC 0 (by omega))
      have c1 : wr.cell? ⟨b, off + k * 2 + 1, none⟩ = some (.int .i64 q.b) := keep_cell4 (unhide HB) (unhide HC 1 (by omega))
      have hbw : Below wr.heap.size wr (((wr.alloc (.cells #[.int .i64 q.a, .int .i64 q.b] 82)).alloc (.cells #[.int .i64 q.a, .int .i64 q.b] 3)).alloc (.cells #[.int .i64 3, .slice (some ⟨wr.heap.size + 1, 0, none⟩) 2 2] 61)) := (((Below.refl _ _).alloc (Nat.le_refl _) _).alloc (by simp) _).alloc (by simp <;> omega) _
      have HBW := hide hbw
      have hro := (show RowV.own (((wr.alloc (.cells #[.int .i64 q.a, .int .i64 q.b] 82)).alloc (.cells #[.int .i64 q.a, .int .i64 q.b] 3)).alloc (.cells #[.int .i64 3, .slice (some ⟨wr.heap.size + 1, 0, none⟩) 2 2] 61)) (w.heap.size + 1) ⟨wr.heap.size + 1, 2, PairV.nums q⟩ from by
        have := lit_row (w := wr.alloc (.cells #[.int .i64 q.a, .int .i64 q.b] 82)) (B := w.heap.size + 1) (PairV.nums q) (by simp <;> omega) (by simp [PairV.nums])
        simp only [World.size_alloc] at this
        exact World.ownsRow.alloc this _)
      have HRO := hide hro
      have how := (LinesO.later (unhide HL) hbw).out
      rw [unhide HXL] at how
      have HOW := hide how
      clear hbw hro how
      go_wp2_with (first
        | (
          at_builtin
          refine wpList_append_own _ rfl _ _ 57 rfl (w.heap.size + 1) 61 i0 (.agg #[.int .i64 0, .slice none 0 0]) 2 32 Tryd.underlying57 hi0 hz0 hz1 hz2 rfl (by decide) (.slice (some ⟨g, 0, none⟩) n cap) n (xs.flatMap LineV.cells) rfl (by exact unhide HOW) ⟨wr.heap.size + 1 + 1, 0, none⟩ 1 1 [.int .i64 3, .slice (some ⟨wr.heap.size + 1, 0, none⟩) 2 2] rfl rfl (news3 _ _ _ _ _) (by simp [Value.oneCell']) (by unfold maxLen; omega) (by omega) (by simp <;> omega) ?_
          intro v1 w2 h1 h2 h3
          have hend : AtLines w r ⟨some ⟨b, off, none⟩, aq, ai, cp, ct, ci⟩ (ls ++ [LineV.pair ⟨3, ⟨wr.heap.size + 1, 2, PairV.nums q⟩⟩]) v1 w2 := AtLines.push (unhide HLN) (unhide HX) ((unhide HL).later (unhide HBW)) ((unhide HB).trans ((unhide HBW).mono (Nat.le_of_lt hz))) (Blk.below (unhide HBW) hz (unhide HK)) (by have := (unhide HBW).size; omega) (unhide HRO) h1 h2
          have HEND := hide hend
          clear hend h1 h2 h3)
        | go_in)
      go_roundw
      case rel => exact ⟨k + 1, by omega, by go_num, by rw [unhide HST hlt, ← List.cons_append, unhide HLS]; exact unhide HEND⟩
      case measure => simp [intOf]; omega
    case neg =>
      have hk' : k = r.pairs.length := by omega
      have hT0 : wayL r :: rowsT r 0 = ls := by rw [rowsT_zero, ← hk']; exact unhide HLS
      have HT0 := hide hT0
      have a7 := (reqFacts hB).2.2.2.2.2.2.2.1
      clear hT0 HST hk' hB
      go_wp2_with fail
      go_loopw [3, 53] (fun o i wr => ∃ k : Nat, k ≤ r.types.length ∧ i = .int .i64 k ∧ AtLines w r ⟨ap, aq, ai, cp, ct, ci⟩ (wayL r :: rowsT r k) o wr) (fun _ i _ => r.types.length - (intOf i).toNat)
      case atStart => exact ⟨0, Nat.zero_le _, rfl, by rw [unhide HT0]; exact ⟨g, cap, xs, by rw [unhide HLN], unhide HL, unhide HX, unhide HB, unhide HK, hz⟩⟩
      case round =>
        clear HL HX HB HK HLN HLS HXL HT0 hz
        obtain ⟨k, hk, rfl, g, cap, xs, rfl, hL, hx, hbel, hB, hz⟩ := hrel
        have hlen := rowsT_len r k hk
        have HST := hide (rowsT_step r k)
        generalize hls : wayL r :: rowsT r k = ls at *
        have hln : ls.length = (rowsT r k).length + 1 := by rw [← hls]; rfl
        generalize hln' : ls.length = n at *
        have HLN := hide hln'
        have HLS := hide hls
        have hxl : xs.length = n := by rw [← hln', ← hx]; simp
        have HXL := hide hxl
        have hnb : n ≤ 1048600 := by omega
        clear hls hln hln' hxl hlen
        have HL := hide hL
        have HX := hide hx
        have HB := hide hbel
        have HK := hide hB
        clear hL hx hbel
        by_cases hlt : k < r.types.length
        case pos =>
          obtain ⟨b, off, rfl, hc⟩ := (unhide HT).2 k hlt
          have HC := hide hc
          clear hc hB
          generalize r.types.getD k default = q at *
          have c0 : wr.cell? ⟨b, off + k * 7, none⟩ = some (.int .i64 q.id) := keep_cell4 (unhide HB) (unhide HC 0 (by omega))
          have c1 : wr.cell? ⟨b, off + k * 7 + 1, none⟩ = some (.int .i64 q.wd) := keep_cell4 (unhide HB) (unhide HC 1 (by omega))
          have c2 : wr.cell? ⟨b, off + k * 7 + 2, none⟩ = some (.int .i64 q.ht) := keep_cell4 (unhide HB) (unhide HC 2 (by omega))
          have c3 : wr.cell? ⟨b, off + k * 7 + 3, none⟩ = some (.int .i64 q.dp) := keep_cell4 (unhide HB) (unhide HC 3 (by omega))
          have c4 : wr.cell? ⟨b, off + k * 7 + 4, none⟩ = some (.int .i64 q.tare) := keep_cell4 (unhide HB) (unhide HC 4 (by omega))
          have c5 : wr.cell? ⟨b, off + k * 7 + 5, none⟩ = some (.int .i64 q.gram) := keep_cell4 (unhide HB) (unhide HC 5 (by omega))
          have c6 : wr.cell? ⟨b, off + k * 7 + 6, none⟩ = some (.int .i64 q.cost) := keep_cell4 (unhide HB) (unhide HC 6 (by omega))
          have hbw : Below wr.heap.size wr (((wr.alloc (.cells #[.int .i64 q.id, .int .i64 q.wd, .int .i64 q.ht, .int .i64 q.dp, .int .i64 q.tare, .int .i64 q.gram, .int .i64 q.cost] 84)).alloc (.cells #[.int .i64 q.id, .int .i64 q.wd, .int .i64 q.ht, .int .i64 q.dp, .int .i64 q.tare, .int .i64 q.gram, .int .i64 q.cost] 3)).alloc (.cells #[.int .i64 4, .slice (some ⟨wr.heap.size + 1, 0, none⟩) 7 7] 61)) := (((Below.refl _ _).alloc (Nat.le_refl _) _).alloc (by simp) _).alloc (by simp <;> omega) _
          have HBW := hide hbw
          have hro := (show RowV.own (((wr.alloc (.cells #[.int .i64 q.id, .int .i64 q.wd, .int .i64 q.ht, .int .i64 q.dp, .int .i64 q.tare, .int .i64 q.gram, .int .i64 q.cost] 84)).alloc (.cells #[.int .i64 q.id, .int .i64 q.wd, .int .i64 q.ht, .int .i64 q.dp, .int .i64 q.tare, .int .i64 q.gram, .int .i64 q.cost] 3)).alloc (.cells #[.int .i64 4, .slice (some ⟨wr.heap.size + 1, 0, none⟩) 7 7] 61)) (w.heap.size + 1) ⟨wr.heap.size + 1, 7, TypeV.nums q⟩ from by
            have := lit_row (w := wr.alloc (.cells #[.int .i64 q.id, .int .i64 q.wd, .int .i64 q.ht, .int .i64 q.dp, .int .i64 q.tare, .int .i64 q.gram, .int .i64 q.cost] 84)) (B := w.heap.size + 1) (TypeV.nums q) (by simp <;> omega) (by simp [TypeV.nums])
            simp only [World.size_alloc] at this
            exact World.ownsRow.alloc this _)
          have HRO := hide hro
          have how := (LinesO.later (unhide HL) hbw).out
          rw [unhide HXL] at how
          have HOW := hide how
          clear hbw hro how
          go_wp2_with (first
            | (
              at_builtin
              refine wpList_append_own _ rfl _ _ 57 rfl (w.heap.size + 1) 61 i0 (.agg #[.int .i64 0, .slice none 0 0]) 2 32 Tryd.underlying57 hi0 hz0 hz1 hz2 rfl (by decide) (.slice (some ⟨g, 0, none⟩) n cap) n (xs.flatMap LineV.cells) rfl (by exact unhide HOW) ⟨wr.heap.size + 1 + 1, 0, none⟩ 1 1 [.int .i64 4, .slice (some ⟨wr.heap.size + 1, 0, none⟩) 7 7] rfl rfl (news3 _ _ _ _ _) (by simp [Value.oneCell']) (by unfold maxLen; omega) (by omega) (by simp <;> omega) ?_
              intro v1 w2 h1 h2 h3
              have hend : AtLines w r ⟨ap, some ⟨b, off, none⟩, ai, cp, ct, ci⟩ (ls ++ [LineV.pair ⟨4, ⟨wr.heap.size + 1, 7, TypeV.nums q⟩⟩]) v1 w2 := AtLines.push (unhide HLN) (unhide HX) ((unhide HL).later (unhide HBW)) ((unhide HB).trans ((unhide HBW).mono (Nat.le_of_lt hz))) (Blk.below (unhide HBW) hz (unhide HK)) (by have := (unhide HBW).size; omega) (unhide HRO) h1 h2
              have HEND := hide hend
              clear hend h1 h2 h3)
            | go_in)
          go_roundw
          case rel => exact ⟨k + 1, by omega, by go_num, by rw [unhide HST hlt, ← List.cons_append, unhide HLS]; exact unhide HEND⟩
          case measure => simp [intOf]; omega
        case neg =>
          have hk' : k = r.types.length := by omega
          have hI0 : wayL r :: (rowsT r r.types.length ++ [(5, [r.master])]) = ls ++ [(5, [r.master])] := by rw [← List.cons_append, ← hk', unhide HLS]
          have HI0 := hide hI0
          have a8 := (reqFacts hB).2.2.2.2.2.2.2.2.1
          clear hI0 HST hk' hB
          have hbw : Below wr.heap.size wr ((wr.alloc (.cells #[.int .i64 r.master] 3)).alloc (.cells #[.int .i64 5, .slice (some ⟨wr.heap.size, 0, none⟩) 1 1] 61)) := ((Below.refl _ _).alloc (Nat.le_refl _) _).alloc (by simp) _
          have HBW := hide hbw
          have hro := (show RowV.own ((wr.alloc (.cells #[.int .i64 r.master] 3)).alloc (.cells #[.int .i64 5, .slice (some ⟨wr.heap.size, 0, none⟩) 1 1] 61)) (w.heap.size + 1) ⟨wr.heap.size, 1, [r.master]⟩ from by
            have := lit_row (w := wr) (B := w.heap.size + 1) [r.master] (by omega) (by simp)
            exact World.ownsRow.alloc this _)
          have HRO := hide hro
          have how := (LinesO.later (unhide HL) hbw).out
          rw [unhide HXL] at how
          have HOW := hide how
          clear hbw hro how
          go_wp2_with (first
            | (
              at_builtin
              refine wpList_append_own _ rfl _ _ 57 rfl (w.heap.size + 1) 61 i0 (.agg #[.int .i64 0, .slice none 0 0]) 2 32 Tryd.underlying57 hi0 hz0 hz1 hz2 rfl (by decide) (.slice (some ⟨g, 0, none⟩) n cap) n (xs.flatMap LineV.cells) rfl (by exact unhide HOW) ⟨wr.heap.size + 1, 0, none⟩ 1 1 [.int .i64 5, .slice (some ⟨wr.heap.size, 0, none⟩) 1 1] rfl rfl (news2' _ _ _ _) (by simp [Value.oneCell']) (by unfold maxLen; omega) (by omega) (by simp <;> omega) ?_
              intro v1 w2 h1 h2 h3
              have hend : AtLines w r ⟨ap, aq, ai, cp, ct, ci⟩ (ls ++ [LineV.pair ⟨5, ⟨wr.heap.size, 1, [r.master]⟩⟩]) v1 w2 := AtLines.push (unhide HLN) (unhide HX) ((unhide HL).later (unhide HBW)) ((unhide HB).trans ((unhide HBW).mono (Nat.le_of_lt hz))) (Blk.below (unhide HBW) hz (unhide HK)) (by have := (unhide HBW).size; omega) (unhide HRO) h1 h2
              have a9 := (reqFacts hend.blk).2.2.2.2.2.2.2.2.2
              dsimp only at a9
              rw [show ls ++ [LineV.pair ⟨5, ⟨wr.heap.size, 1, [r.master]⟩⟩] = wayL r :: (rowsT r r.types.length ++ [(5, [r.master])]) from (unhide HI0).symm] at hend
              have HEND := hide hend
              clear hend h1 h2 h3)
            | go_in)
          clear HL HX HB HK HLN HLS HXL HI0 HBW HRO HOW a8
          go_loopw [3, 87] (fun o i wr => ∃ k : Nat, k ≤ r.items.length ∧ i = .int .i64 k ∧ AtLines w r ⟨ap, aq, ai, cp, ct, ci⟩ (wayL r :: rowsI r k) o wr) (fun _ i _ => r.items.length - (intOf i).toNat)
          case atStart => exact ⟨0, Nat.zero_le _, rfl, by rw [rowsI_zero]; exact unhide HEND⟩
          case round =>
            clear HEND a9
            obtain ⟨k, hk, rfl, g, cap, xs, rfl, hL, hx, hbel, hB, hz⟩ := hrel
            have hlen := rowsI_len r k hk
            have HST := hide (rowsI_step r k)
            generalize hls : wayL r :: rowsI r k = ls at *
            have hln : ls.length = (rowsI r k).length + 1 := by rw [← hls]; rfl
            generalize hln' : ls.length = n at *
            have HLN := hide hln'
            have HLS := hide hls
            have hxl : xs.length = n := by rw [← hln', ← hx]; simp
            have HXL := hide hxl
            have hnb : n ≤ 1048600 := by omega
            clear hls hln hln' hxl hlen
            have HL := hide hL
            have HX := hide hx
            have HB := hide hbel
            have HK := hide hB
            clear hL hx hbel
            by_cases hlt : k < r.items.length
            case pos =>
              obtain ⟨b, off, rfl, hc⟩ := (unhide HI).2 k hlt
              have HC := hide hc
              clear hc hB
              generalize r.items.getD k default = q at *
              have c0 : wr.cell? ⟨b, off + k * 7, none⟩ = some (.int .i64 q.id) := keep_cell4 (unhide HB) (unhide HC 0 (by omega))
              have c1 : wr.cell? ⟨b, off + k * 7 + 1, none⟩ = some (.int .i64 q.wd) := keep_cell4 (unhide HB) (unhide HC 1 (by omega))
              have c2 : wr.cell? ⟨b, off + k * 7 + 2, none⟩ = some (.int .i64 q.ht) := keep_cell4 (unhide HB) (unhide HC 2 (by omega))
              have c3 : wr.cell? ⟨b, off + k * 7 + 3, none⟩ = some (.int .i64 q.dp) := keep_cell4 (unhide HB) (unhide HC 3 (by omega))
              have c4 : wr.cell? ⟨b, off + k * 7 + 4, none⟩ = some (.int .i64 q.gram) := keep_cell4 (unhide HB) (unhide HC 4 (by omega))
              have c5 : wr.cell? ⟨b, off + k * 7 + 5, none⟩ = some (.int .i64 q.cls) := keep_cell4 (unhide HB) (unhide HC 5 (by omega))
              have c6 : wr.cell? ⟨b, off + k * 7 + 6, none⟩ = some (.int .i64 q.cnt) := keep_cell4 (unhide HB) (unhide HC 6 (by omega))
              have hbw : Below wr.heap.size wr (((wr.alloc (.cells #[.int .i64 q.id, .int .i64 q.wd, .int .i64 q.ht, .int .i64 q.dp, .int .i64 q.gram, .int .i64 q.cls, .int .i64 q.cnt] 86)).alloc (.cells #[.int .i64 q.id, .int .i64 q.wd, .int .i64 q.ht, .int .i64 q.dp, .int .i64 q.gram, .int .i64 q.cls, .int .i64 q.cnt] 3)).alloc (.cells #[.int .i64 6, .slice (some ⟨wr.heap.size + 1, 0, none⟩) 7 7] 61)) := (((Below.refl _ _).alloc (Nat.le_refl _) _).alloc (by simp) _).alloc (by simp <;> omega) _
              have HBW := hide hbw
              have hro := (show RowV.own (((wr.alloc (.cells #[.int .i64 q.id, .int .i64 q.wd, .int .i64 q.ht, .int .i64 q.dp, .int .i64 q.gram, .int .i64 q.cls, .int .i64 q.cnt] 86)).alloc (.cells #[.int .i64 q.id, .int .i64 q.wd, .int .i64 q.ht, .int .i64 q.dp, .int .i64 q.gram, .int .i64 q.cls, .int .i64 q.cnt] 3)).alloc (.cells #[.int .i64 6, .slice (some ⟨wr.heap.size + 1, 0, none⟩) 7 7] 61)) (w.heap.size + 1) ⟨wr.heap.size + 1, 7, ItemV.nums q⟩ from by
                have := lit_row (w := wr.alloc (.cells #[.int .i64 q.id, .int .i64 q.wd, .int .i64 q.ht, .int .i64 q.dp, .int .i64 q.gram, .int .i64 q.cls, .int .i64 q.cnt] 86)) (B := w.heap.size + 1) (ItemV.nums q) (by simp <;> omega) (by simp [ItemV.nums])
                simp only [World.size_alloc] at this
                exact World.ownsRow.alloc this _)
              have HRO := hide hro
              have how := (LinesO.later (unhide HL) hbw).out
              rw [unhide HXL] at how
              have HOW := hide how
              clear hbw hro how
              go_wp2_with (first
                | (
                  at_builtin
                  refine wpList_append_own _ rfl _ _ 57 rfl (w.heap.size + 1) 61 i0 (.agg #[.int .i64 0, .slice none 0 0]) 2 32 Tryd.underlying57 hi0 hz0 hz1 hz2 rfl (by decide) (.slice (some ⟨g, 0, none⟩) n cap) n (xs.flatMap LineV.cells) rfl (by exact unhide HOW) ⟨wr.heap.size + 1 + 1, 0, none⟩ 1 1 [.int .i64 6, .slice (some ⟨wr.heap.size + 1, 0, none⟩) 7 7] rfl rfl (news3 _ _ _ _ _) (by simp [Value.oneCell']) (by unfold maxLen; omega) (by omega) (by simp <;> omega) ?_
                  intro v1 w2 h1 h2 h3
                  have hend : AtLines w r ⟨ap, aq, some ⟨b, off, none⟩, cp, ct, ci⟩ (ls ++ [LineV.pair ⟨6, ⟨wr.heap.size + 1, 7, ItemV.nums q⟩⟩]) v1 w2 := AtLines.push (unhide HLN) (unhide HX) ((unhide HL).later (unhide HBW)) ((unhide HB).trans ((unhide HBW).mono (Nat.le_of_lt hz))) (Blk.below (unhide HBW) hz (unhide HK)) (by have := (unhide HBW).size; omega) (unhide HRO) h1 h2
                  have HEND := hide hend
                  clear hend h1 h2 h3)
                | go_in)
              go_roundw
              case rel => exact ⟨k + 1, by omega, by go_num, by rw [unhide HST hlt, ← List.cons_append, unhide HLS]; exact unhide HEND⟩
              case measure => simp [intOf]; omega
            case neg =>
              have hk' : k = r.items.length := by omega
              have hall : linesR r = ls := by rw [← unhide HLS, hk', rowsI_all]; rfl
              clear HST hB
              go_wp2_with fail
              go_ret
              exact ⟨g, cap, xs, by rw [hall, unhide HLN]; rfl, unhide HL, hall ▸ unhide HX, unhide HB⟩
end Go.Proofs.YtbdpnmlhabliaaaDoor
