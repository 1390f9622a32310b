/- laws.FnCheapest: what is told holds the units; none that holds them is cheaper, or as cheap and of a lesser number; where none is told, the master carton does not hold them. -/
import Derived.Test.YtcblpoeeembniabGreatDoorDrawCheap
import Derived.Test.YtcblpoeeembniabGreatDoorCheapSpec
import Derived.Test.YtcblpoeeembniabGreatDoorPkM
import Derived.Test.YtcblpoeeembniabGreatDoorHoldsImpl
import Derived.Test.YtcblpoeeembniabGreatDoorLowPlain
namespace Go.Proofs.YtcblpoeeembniabGreatDoor
open Go Go.RowKit
set_option linter.unusedVariables false
set_option linter.unusedSimpArgs false

theorem lessT_iff {a b : TypeV} : lessT a b = true ↔ a.cost < b.cost ∨ a.cost = b.cost ∧ a.id < b.id := by simp [lessT]
theorem lessT_no {a b : TypeV} (h : lessT a b = false) : ¬ a.cost < b.cost ∧ ¬ (a.cost = b.cost ∧ a.id < b.id) := by
 have h2 : ¬ lessT a b = true := by rw [h]; simp
 rw [lessT_iff] at h2
 exact ⟨fun x => h2 (.inl x), fun x => h2 (.inr x)⟩
theorem lessT_no' {a b : TypeV} (h : ¬ (a.cost < b.cost ∨ a.cost = b.cost ∧ a.id < b.id)) : lessT a b = false := by
 cases e : lessT a b
 · rfl
 · exact absurd (lessT_iff.1 e) h
def LeastOf (o : Option TypeV) (S : List TypeV) : Prop := match o with | none => S = [] | some m => m ∈ S ∧ ∀ t ∈ S, lessT t m = false
theorem least_more {o : Option TypeV} {S : List TypeV} {t : TypeV} (h : LeastOf o S) : LeastOf (minT o t) (S ++ [t]) := by
 cases o with
 | none =>
  have h : S = [] := h
  subst h
  refine ⟨by simp, fun s hs => ?_⟩
  simp at hs
  subst hs
  exact lessT_no' (by omega)
 | some m =>
  obtain ⟨h1, h2⟩ := h
  unfold minT
  dsimp only
  by_cases e : lessT t m = true
  · rw [if_pos e]
    refine ⟨by simp, fun s hs => ?_⟩
    have ht := lessT_iff.1 e
    rcases List.mem_append.1 hs with hs | hs
    · have := lessT_no (h2 s hs)
      exact lessT_no' (by omega)
    · simp at hs
      subst hs
      exact lessT_no' (by omega)
  · rw [if_neg e]
    refine ⟨List.mem_append_left _ h1, fun s hs => ?_⟩
    rcases List.mem_append.1 hs with hs | hs
    · exact h2 s hs
    · simp at hs
      subst hs
      simpa using e
theorem least_fold : ∀ (l S : List TypeV) (o : Option TypeV), LeastOf o S → LeastOf (l.foldl minT o) (S ++ l)
 | [], S, o, h => by simpa using h
 | t :: l, S, o, h => by
  have := least_fold l (S ++ [t]) (minT o t) (least_more h)
  simpa using this
theorem least_is (l : List TypeV) : LeastOf (leastT l) l := by
 have h := least_fold l [] none rfl
 rw [List.nil_append] at h
 exact h
theorem cheap_some {r : ReqV} {us : List Int} (h : cheapB r us = true) : holdsR r us (cheapV r us) = true := by
 have hl := least_is (holding r us r.types)
 unfold cheapB at h
 unfold cheapV
 cases e : leastT (holding r us r.types) with
 | none => rw [e] at h; simp at h
 | some m =>
  rw [e] at hl
  have h1 : m ∈ holding r us r.types := hl.1
  rw [holding, List.mem_filter] at h1
  exact h1.2
theorem cheap_le {r : ReqV} {us : List Int} {t : TypeV} (ht : t ∈ r.types) (h : holdsR r us t = true) : cheapB r us = true ∧ lessT t (cheapV r us) = false := by
 have hl := least_is (holding r us r.types)
 have hm : t ∈ holding r us r.types := by rw [holding, List.mem_filter]; exact ⟨ht, h⟩
 unfold cheapB cheapV
 cases e : leastT (holding r us r.types) with
 | none => rw [e] at hl; have h1 : holding r us r.types = [] := hl; rw [h1] at hm; cases hm
 | some m => rw [e] at hl; exact ⟨rfl, hl.2 t hm⟩
theorem cheap_none {r : ReqV} {us : List Int} (h : cheapB r us = false) : (cheapV r us).id = 0 ∧ holdsR r us (masterV r) = false := by
 constructor
 · unfold cheapB at h
   unfold cheapV
   cases e : leastT (holding r us r.types) with
   | none => rfl
   | some m => rw [e] at h; simp at h
 · cases e : holdsR r us (masterV r)
   · rfl
   · by_cases h0 : classI r = 0
     · have := (cheap_le (master_mem h0).1 e).1
       rw [h] at this
       cases this
     · unfold holdsR at e
       simp [h0] at e
theorem rdB_lt {w : World} {a : Option Addr} {n : Nat} {zs : List Int} (h : RdB w a n zs) (h0 : 0 < n) (x : Addr) (hx : a = some x) : x.block < w.heap.size := by
 obtain ⟨b, off, ha, hc, _⟩ := h.2 0 h0
 rw [hx] at ha
 cases ha
 exact World.block_lt_of_cell? w _ hc
theorem types_at {w : World} {r : ReqV} {h : ReqH} (hr : RdReq w r h) (i : Nat) (hi : i < r.types.length) : ∃ b off, h.at' = some ⟨b, off, none⟩ ∧ ∀ j, j < 7 → w.cell? ⟨b, off + i * 7 + j, none⟩ = ((r.types.getD i default).cells)[j]? := hr.2.1.2 i hi
theorem type_in {r : ReqV} {i : Nat} (hi : i < r.types.length) : r.types.getD i default ∈ r.types := by
 rw [List.getD_eq_getElem?_getD, List.getElem?_eq_getElem hi]
 exact List.getElem_mem _
set_option maxRecDepth 100000 in
set_option maxHeartbeats 8000000 in
theorem law_fnCheapest (a : Option Addr) (n c : Nat) (zs : List Int) (w : World) (hr : RdB w a n zs) (hm : n ≤ maxLen) (hg : ErrT w) :
 Calls Tryz.prog 4 #[.slice a n c] w fun e w' => e = .returned (.bool true) ∧ Below w.heap.size w w' := by
 unfold maxLen at hm
 by_cases hn : n ≤ 1048576
 case neg =>
  have hgt : (1048576 : Int) < (n : Int) := by omega
  go_enter Tryz.func4, Tryz.ntmps4
  go_wp2_with (first | (go_at_call 14; go_in) | fail)
  go_ret
  exact ⟨rfl, Below.refl _ _⟩
 have hgt : ¬ (1048576 : Int) < (n : Int) := by omega
 have HR := hide hr
 clear hr
 go_enter Tryz.func4, Tryz.ntmps4
 go_wp2_with (first | (go_at_call 14; go_in) | fail)
 refine (drawCheapest_any a n c zs w HR.out hn (rdB_lt HR.out)).mono ?_
 rintro e w1 ⟨r, ⟨ap, ta, ai, cp, ct, ci⟩, gl, cl, us, rfl, hlo, hq1, hf1, hu1, hu12, hb1, hgl⟩
 have hsm : r.small := hlo.small
 have hn7 : us.length ≤ 1048600 := by omega
 have ht6 := hlo.lt
 clear hlo HR hf1 hgl
 have Hw1 : Hid (Below w.heap.size w w1) := hb1
 have Qrw1 : Hid (RdReq w1 r ⟨ap, ta, ai, cp, ct, ci⟩) := hq1
 have Qgw1 : Hid (ErrT w1) := hg.later hb1
 have Quw1 : Hid (Rd w1 (some ⟨gl, 0, none⟩) us.length us) := hu1
 clear hb1 hq1 hu1
 unfold reqVal
 go_wp2_with fail
 generalize hW : (w1.alloc (.cells #[.int .i64 r.way, .int .i64 r.pal.wd, .int .i64 r.pal.dp, .int .i64 r.pal.ht, .int .i64 r.pal.gram, .int .i64 r.classes, .slice ap r.pairs.length cp, .slice ta r.types.length ct, .int .i64 r.master, .slice ai r.items.length ci] 41)) = w2 at *
 obtain ⟨hb, Kxw2, zxw2⟩ := en1 hW
 have hb := unhide hb
 have Hw2 : Hid (Below w.heap.size w w2) := Hw1.out.trans (hb.mono Hw1.out.size)
 have Qrw2 : Hid (RdReq w2 r ⟨ap, ta, ai, cp, ct, ci⟩) := Qrw1.out.mono hb
 have Qgw2 : Hid (ErrT w2) := Qgw1.out.later hb
 have Quw2 : Hid (Rd w2 (some ⟨gl, 0, none⟩) us.length us) := Rd.mono Quw1.out hb
 clear Hw1 Qrw1 Qgw1 Quw1
 clear hb hW
 refine (cheapest_any r ⟨ap, ta, ai, cp, ct, ci⟩ _ us.length cl us _ Qrw2.out hsm Qgw2.out Quw2.out hn7).mono ?_
 rintro e w3 ⟨rfl, hbw3⟩
 have Hw3 : Hid (Below w.heap.size w w3) := Hw2.out.trans (hbw3.mono Hw2.out.size)
 have Kxw3 := hide (Blk.below hbw3 zxw2 Kxw2.out)
 have zxw3 : w1.heap.size < w3.heap.size := Nat.lt_of_lt_of_le zxw2 hbw3.size
 have Qrw3 : Hid (RdReq w3 r ⟨ap, ta, ai, cp, ct, ci⟩) := Qrw2.out.mono hbw3
 have Qgw3 : Hid (ErrT w3) := Qgw2.out.later hbw3
 have Quw3 : Hid (Rd w3 (some ⟨gl, 0, none⟩) us.length us) := Rd.mono Quw2.out hbw3
 clear Hw2 Kxw2 zxw2 Qrw2 Qgw2 Quw2
 clear hbw3
 obtain ⟨xw3_0, xw3_1, xw3_2, xw3_3, xw3_4, xw3_5, xw3_6, xw3_7, xw3_8, xw3_9⟩ := Blk.cs10 Kxw3.out
 go_wp2_with fail
 clear xw3_0 xw3_1 xw3_2 xw3_3 xw3_4 xw3_5 xw3_6 xw3_7 xw3_8 xw3_9
 generalize hW : (w3.alloc (.cells #[.int .i64 (cheapV r us).id, .int .i64 (cheapV r us).wd, .int .i64 (cheapV r us).ht, .int .i64 (cheapV r us).dp, .int .i64 (cheapV r us).tare, .int .i64 (cheapV r us).gram, .int .i64 (cheapV r us).cost] 54)) = w4 at *
 obtain ⟨hb, Ktw4, ztw4⟩ := en1 hW
 have hb := unhide hb
 have Hw4 : Hid (Below w.heap.size w w4) := Hw3.out.trans (hb.mono Hw3.out.size)
 have Kxw4 := hide (Blk.below hb zxw3 Kxw3.out)
 have zxw4 : w1.heap.size < w4.heap.size := Nat.lt_of_lt_of_le zxw3 hb.size
 have Qrw4 : Hid (RdReq w4 r ⟨ap, ta, ai, cp, ct, ci⟩) := Qrw3.out.mono hb
 have Qgw4 : Hid (ErrT w4) := Qgw3.out.later hb
 have Quw4 : Hid (Rd w4 (some ⟨gl, 0, none⟩) us.length us) := Rd.mono Quw3.out hb
 clear Hw3 Kxw3 zxw3 Qrw3 Qgw3 Quw3
 clear hb hW
 refine (specCheapest_any r ⟨ap, ta, ai, cp, ct, ci⟩ _ us.length cl us _ Qrw4.out hsm Quw4.out hn7).mono ?_
 rintro e w5 ⟨rfl, hbw5⟩
 have Hw5 : Hid (Below w.heap.size w w5) := Hw4.out.trans (hbw5.mono Hw4.out.size)
 have Kxw5 := hide (Blk.below hbw5 zxw4 Kxw4.out)
 have zxw5 : w1.heap.size < w5.heap.size := Nat.lt_of_lt_of_le zxw4 hbw5.size
 have Ktw5 := hide (Blk.below hbw5 ztw4 Ktw4.out)
 have ztw5 : w3.heap.size < w5.heap.size := Nat.lt_of_lt_of_le ztw4 hbw5.size
 have Qrw5 : Hid (RdReq w5 r ⟨ap, ta, ai, cp, ct, ci⟩) := Qrw4.out.mono hbw5
 have Qgw5 : Hid (ErrT w5) := Qgw4.out.later hbw5
 have Quw5 : Hid (Rd w5 (some ⟨gl, 0, none⟩) us.length us) := Rd.mono Quw4.out hbw5
 clear Hw4 Kxw4 zxw4 Ktw4 ztw4 Qrw4 Qgw4 Quw4
 clear hbw5
 have HCS := hide (fun e => cheap_some (r := r) (us := us) e)
 have HCN := hide (fun e => cheap_none (r := r) (us := us) e)
 have HCL := hide (fun t ht e => cheap_le (r := r) (us := us) (t := t) ht e)
 generalize cheapV r us = tv at *
 generalize cheapB r us = tb at *
 have hne : (tb != tb) = false := by simp
 go_wp2_with fail
 generalize hW : (w5.alloc (.cells #[.int .i64 tv.id, .int .i64 tv.wd, .int .i64 tv.ht, .int .i64 tv.dp, .int .i64 tv.tare, .int .i64 tv.gram, .int .i64 tv.cost] 54)) = w6 at *
 obtain ⟨hb, Kmw6, zmw6⟩ := en1 hW
 have hb := unhide hb
 have Hw6 : Hid (Below w.heap.size w w6) := Hw5.out.trans (hb.mono Hw5.out.size)
 have Kxw6 := hide (Blk.below hb zxw5 Kxw5.out)
 have zxw6 : w1.heap.size < w6.heap.size := Nat.lt_of_lt_of_le zxw5 hb.size
 have Ktw6 := hide (Blk.below hb ztw5 Ktw5.out)
 have ztw6 : w3.heap.size < w6.heap.size := Nat.lt_of_lt_of_le ztw5 hb.size
 have Qrw6 : Hid (RdReq w6 r ⟨ap, ta, ai, cp, ct, ci⟩) := Qrw5.out.mono hb
 have Qgw6 : Hid (ErrT w6) := Qgw5.out.later hb
 have Quw6 : Hid (Rd w6 (some ⟨gl, 0, none⟩) us.length us) := Rd.mono Quw5.out hb
 clear Hw5 Kxw5 zxw5 Ktw5 ztw5 Qrw5 Qgw5 Quw5
 clear hb hW
 clear Kmw6 zmw6
 have xw6_7 : w6.cell? ⟨w1.heap.size, 7, none⟩ = some (.slice ta r.types.length ct) := (Kxw6.out 7 (by simp)).1
 go_wp2
 clear xw6_7
 have Qcw6 : Hid (Below w6.heap.size w6 w6) := Below.refl _ _
 go_loopw [9] (fun i wr => ∃ j : Nat, j ≤ r.types.length ∧ i = .int .i64 j ∧ Below w6.heap.size w6 wr) (fun i _ => r.types.length - (intOf i).toNat)
 case atStart => exact ⟨0, Nat.zero_le _, rfl, Below.refl _ _⟩
 case round =>
  obtain ⟨j, hj, rfl, hbl⟩ := hrel
  by_cases hlj : j < r.types.length
  case pos =>
   have Hwr : Hid (Below w.heap.size w wr) := Hw6.out.trans (hbl.mono Hw6.out.size)
   have Kxwr := hide (Blk.below hbl zxw6 Kxw6.out)
   have zxwr : w1.heap.size < wr.heap.size := Nat.lt_of_lt_of_le zxw6 hbl.size
   have Ktwr := hide (Blk.below hbl ztw6 Ktw6.out)
   have ztwr : w3.heap.size < wr.heap.size := Nat.lt_of_lt_of_le ztw6 hbl.size
   have Qrwr : Hid (RdReq wr r ⟨ap, ta, ai, cp, ct, ci⟩) := Qrw6.out.mono hbl
   have Qgwr : Hid (ErrT wr) := Qgw6.out.later hbl
   have Quwr : Hid (Rd wr (some ⟨gl, 0, none⟩) us.length us) := Rd.mono Quw6.out hbl
   have Qcwr : Hid (Below w6.heap.size w6 wr) := Qcw6.out.trans (hbl.mono Qcw6.out.size)
   clear Hw6 Kxw6 zxw6 Ktw6 ztw6 Qrw6 Qgw6 Quw6 Qcw6
   clear hbl
   obtain ⟨bt, ot, hat, hct⟩ := types_at Qrwr.out j hlj
   have hat : ta = some ⟨bt, ot, none⟩ := hat
   have HLE := hide (HCL.out _ (type_in hlj))
   subst hat
   generalize r.types.getD j default = q at hct HLE
   have d0 : wr.cell? ⟨bt, ot + j * 7, none⟩ = some (.int .i64 q.id) := hct 0 (by omega)
   have d1 : wr.cell? ⟨bt, ot + j * 7 + 1, none⟩ = some (.int .i64 q.wd) := hct 1 (by omega)
   have d2 : wr.cell? ⟨bt, ot + j * 7 + 2, none⟩ = some (.int .i64 q.ht) := hct 2 (by omega)
   have d3 : wr.cell? ⟨bt, ot + j * 7 + 3, none⟩ = some (.int .i64 q.dp) := hct 3 (by omega)
   have d4 : wr.cell? ⟨bt, ot + j * 7 + 4, none⟩ = some (.int .i64 q.tare) := hct 4 (by omega)
   have d5 : wr.cell? ⟨bt, ot + j * 7 + 5, none⟩ = some (.int .i64 q.gram) := hct 5 (by omega)
   have d6 : wr.cell? ⟨bt, ot + j * 7 + 6, none⟩ = some (.int .i64 q.cost) := hct 6 (by omega)
   clear hct HCN HCS HCL
   obtain ⟨xwr_0, xwr_1, xwr_2, xwr_3, xwr_4, xwr_5, xwr_6, xwr_7, xwr_8, xwr_9⟩ := Blk.cs10 Kxwr.out
   go_wp2_with fail
   clear d0 d1 d2 d3 d4 d5 d6
   clear xwr_0 xwr_1 xwr_2 xwr_3 xwr_4 xwr_5 xwr_6 xwr_7 xwr_8 xwr_9
   generalize hW : (wr.alloc (.cells #[.int .i64 q.id, .int .i64 q.wd, .int .i64 q.ht, .int .i64 q.dp, .int .i64 q.tare, .int .i64 q.gram, .int .i64 q.cost] 54)) = w7 at *
   obtain ⟨hb, Kqw7, zqw7⟩ := en1 hW
   have hb := unhide hb
   have Hw7 : Hid (Below w.heap.size w w7) := Hwr.out.trans (hb.mono Hwr.out.size)
   have Kxw7 := hide (Blk.below hb zxwr Kxwr.out)
   have zxw7 : w1.heap.size < w7.heap.size := Nat.lt_of_lt_of_le zxwr hb.size
   have Ktw7 := hide (Blk.below hb ztwr Ktwr.out)
   have ztw7 : w3.heap.size < w7.heap.size := Nat.lt_of_lt_of_le ztwr hb.size
   have Qrw7 : Hid (RdReq w7 r ⟨ap, (some ⟨bt, ot, none⟩), ai, cp, ct, ci⟩) := Qrwr.out.mono hb
   have Qgw7 : Hid (ErrT w7) := Qgwr.out.later hb
   have Quw7 : Hid (Rd w7 (some ⟨gl, 0, none⟩) us.length us) := Rd.mono Quwr.out hb
   have Qcw7 : Hid (Below w6.heap.size w6 w7) := Qcwr.out.trans (hb.mono Qcwr.out.size)
   clear Hwr Kxwr zxwr Ktwr ztwr Qrwr Qgwr Quwr Qcwr
   clear hb hW
   refine (holds_any r ⟨ap, (some ⟨bt, ot, none⟩), ai, cp, ct, ci⟩ _ us.length cl us q _ Qrw7.out hsm Qgw7.out Quw7.out hn7).mono ?_
   rintro e w8 ⟨rfl, hbw8⟩
   have Hw8 : Hid (Below w.heap.size w w8) := Hw7.out.trans (hbw8.mono Hw7.out.size)
   have Kxw8 := hide (Blk.below hbw8 zxw7 Kxw7.out)
   have zxw8 : w1.heap.size < w8.heap.size := Nat.lt_of_lt_of_le zxw7 hbw8.size
   have Ktw8 := hide (Blk.below hbw8 ztw7 Ktw7.out)
   have ztw8 : w3.heap.size < w8.heap.size := Nat.lt_of_lt_of_le ztw7 hbw8.size
   have Kqw8 := hide (Blk.below hbw8 zqw7 Kqw7.out)
   have zqw8 : wr.heap.size < w8.heap.size := Nat.lt_of_lt_of_le zqw7 hbw8.size
   have Qrw8 : Hid (RdReq w8 r ⟨ap, (some ⟨bt, ot, none⟩), ai, cp, ct, ci⟩) := Qrw7.out.mono hbw8
   have Qgw8 : Hid (ErrT w8) := Qgw7.out.later hbw8
   have Quw8 : Hid (Rd w8 (some ⟨gl, 0, none⟩) us.length us) := Rd.mono Quw7.out hbw8
   have Qcw8 : Hid (Below w6.heap.size w6 w8) := Qcw7.out.trans (hbw8.mono Qcw7.out.size)
   clear Hw7 Kxw7 zxw7 Ktw7 ztw7 Kqw7 zqw7 Qrw7 Qgw7 Quw7 Qcw7
   clear hbw8
   cases hq : holdsR r us q
   case false =>
    clear HLE
    go_wp2_with fail
    go_roundw
    case rel => exact ⟨j + 1, by omega, by go_num, unhide Qcw8⟩
    case measure => simp [intOf]; omega
   case true =>
    obtain ⟨htb, hles⟩ := HLE.out hq
    subst htb
    obtain ⟨n1, n2⟩ := lessT_no hles
    clear HLE hles hq
    have qw8_0 : w8.cell? ⟨wr.heap.size, 0, none⟩ = some (.int .i64 q.id) := (Kqw8.out 0 (by simp)).1
    have qw8_6 : w8.cell? ⟨wr.heap.size, 6, none⟩ = some (.int .i64 q.cost) := (Kqw8.out 6 (by simp)).1
    have tw8_0 : w8.cell? ⟨w3.heap.size, 0, none⟩ = some (.int .i64 tv.id) := (Ktw8.out 0 (by simp)).1
    have tw8_6 : w8.cell? ⟨w3.heap.size, 6, none⟩ = some (.int .i64 tv.cost) := (Ktw8.out 6 (by simp)).1
    by_cases n3 : q.cost = tv.cost
    case pos =>
     have n4 : ¬ q.id < tv.id := fun x => n2 ⟨n3, x⟩
     clear n2
     go_wp2_with fail
     go_roundw
     case rel => exact ⟨j + 1, by omega, by go_num, unhide Qcw8⟩
     case measure => simp [intOf]; omega
    case neg =>
     clear n2
     go_wp2_with fail
     go_roundw
     case rel => exact ⟨j + 1, by omega, by go_num, unhide Qcw8⟩
     case measure => simp [intOf]; omega
  case neg =>
   have Hwr : Hid (Below w.heap.size w wr) := Hw6.out.trans (hbl.mono Hw6.out.size)
   have Kxwr := hide (Blk.below hbl zxw6 Kxw6.out)
   have zxwr : w1.heap.size < wr.heap.size := Nat.lt_of_lt_of_le zxw6 hbl.size
   have Ktwr := hide (Blk.below hbl ztw6 Ktw6.out)
   have ztwr : w3.heap.size < wr.heap.size := Nat.lt_of_lt_of_le ztw6 hbl.size
   have Qrwr : Hid (RdReq wr r ⟨ap, ta, ai, cp, ct, ci⟩) := Qrw6.out.mono hbl
   have Qgwr : Hid (ErrT wr) := Qgw6.out.later hbl
   have Quwr : Hid (Rd wr (some ⟨gl, 0, none⟩) us.length us) := Rd.mono Quw6.out hbl
   have Qcwr : Hid (Below w6.heap.size w6 wr) := Qcw6.out.trans (hbl.mono Qcw6.out.size)
   clear Hw6 Kxw6 zxw6 Ktw6 ztw6 Qrw6 Qgw6 Quw6 Qcw6
   clear hbl HCL
   clear Qcwr
   obtain ⟨xwr_0, xwr_1, xwr_2, xwr_3, xwr_4, xwr_5, xwr_6, xwr_7, xwr_8, xwr_9⟩ := Blk.cs10 Kxwr.out
   go_wp2_with fail
   refine (masterOf_any r ⟨ap, ta, ai, cp, ct, ci⟩ _ Qrwr.out (by omega)).mono ?_
   rintro e w9 ⟨rfl, hbw9⟩
   clear xwr_0 xwr_1 xwr_2 xwr_3 xwr_4 xwr_5 xwr_6 xwr_7 xwr_8 xwr_9
   have Hw9 : Hid (Below w.heap.size w w9) := Hwr.out.trans (hbw9.mono Hwr.out.size)
   have Kxw9 := hide (Blk.below hbw9 zxwr Kxwr.out)
   have zxw9 : w1.heap.size < w9.heap.size := Nat.lt_of_lt_of_le zxwr hbw9.size
   have Ktw9 := hide (Blk.below hbw9 ztwr Ktwr.out)
   have ztw9 : w3.heap.size < w9.heap.size := Nat.lt_of_lt_of_le ztwr hbw9.size
   have Qrw9 : Hid (RdReq w9 r ⟨ap, ta, ai, cp, ct, ci⟩) := Qrwr.out.mono hbw9
   have Qgw9 : Hid (ErrT w9) := Qgwr.out.later hbw9
   have Quw9 : Hid (Rd w9 (some ⟨gl, 0, none⟩) us.length us) := Rd.mono Quwr.out hbw9
   clear Hwr Kxwr zxwr Ktwr ztwr Qrwr Qgwr Quwr
   clear hbw9
   cases tb
   case false =>
    obtain ⟨hid, hnm⟩ := HCN.out rfl
    clear HCN HCS
    generalize masterV r = mv at *
    have hid0 : (tv.id == 0) = true := by rw [hid]; rfl
    cases hmb : masterB r
    case false =>
     obtain ⟨xw9_0, xw9_1, xw9_2, xw9_3, xw9_4, xw9_5, xw9_6, xw9_7, xw9_8, xw9_9⟩ := Blk.cs10 Kxw9.out
     have tw9_0 : w9.cell? ⟨w3.heap.size, 0, none⟩ = some (.int .i64 tv.id) := (Ktw9.out 0 (by simp)).1
     rw [hid] at tw9_0
     go_wp2_with fail
     go_ret
     exact ⟨rfl, Hw9.out.alloc Hw9.out.size _⟩
    case true =>
     obtain ⟨xw9_0, xw9_1, xw9_2, xw9_3, xw9_4, xw9_5, xw9_6, xw9_7, xw9_8, xw9_9⟩ := Blk.cs10 Kxw9.out
     have tw9_0 : w9.cell? ⟨w3.heap.size, 0, none⟩ = some (.int .i64 tv.id) := (Ktw9.out 0 (by simp)).1
     rw [hid] at tw9_0
     go_wp2_with fail
     clear xw9_0 xw9_1 xw9_2 xw9_3 xw9_4 xw9_5 xw9_6 xw9_7 xw9_8 xw9_9 tw9_0
     generalize hW : (w9.alloc (.cells #[.int .i64 mv.id, .int .i64 mv.wd, .int .i64 mv.ht, .int .i64 mv.dp, .int .i64 mv.tare, .int .i64 mv.gram, .int .i64 mv.cost] 54)) = w10 at *
     obtain ⟨hb, Kfw10, zfw10⟩ := en1 hW
     have hb := unhide hb
     have Hw10 : Hid (Below w.heap.size w w10) := Hw9.out.trans (hb.mono Hw9.out.size)
     have Kxw10 := hide (Blk.below hb zxw9 Kxw9.out)
     have zxw10 : w1.heap.size < w10.heap.size := Nat.lt_of_lt_of_le zxw9 hb.size
     have Ktw10 := hide (Blk.below hb ztw9 Ktw9.out)
     have ztw10 : w3.heap.size < w10.heap.size := Nat.lt_of_lt_of_le ztw9 hb.size
     have Qrw10 : Hid (RdReq w10 r ⟨ap, ta, ai, cp, ct, ci⟩) := Qrw9.out.mono hb
     have Qgw10 : Hid (ErrT w10) := Qgw9.out.later hb
     have Quw10 : Hid (Rd w10 (some ⟨gl, 0, none⟩) us.length us) := Rd.mono Quw9.out hb
     clear Hw9 Kxw9 zxw9 Ktw9 ztw9 Qrw9 Qgw9 Quw9
     clear hb hW
     refine (holds_any r ⟨ap, ta, ai, cp, ct, ci⟩ _ us.length cl us mv _ Qrw10.out hsm Qgw10.out Quw10.out hn7).mono ?_
     rintro e w11 ⟨rfl, hbw11⟩
     have Hw11 : Hid (Below w.heap.size w w11) := Hw10.out.trans (hbw11.mono Hw10.out.size)
     have Kxw11 := hide (Blk.below hbw11 zxw10 Kxw10.out)
     have zxw11 : w1.heap.size < w11.heap.size := Nat.lt_of_lt_of_le zxw10 hbw11.size
     have Ktw11 := hide (Blk.below hbw11 ztw10 Ktw10.out)
     have ztw11 : w3.heap.size < w11.heap.size := Nat.lt_of_lt_of_le ztw10 hbw11.size
     have Kfw11 := hide (Blk.below hbw11 zfw10 Kfw10.out)
     have zfw11 : w9.heap.size < w11.heap.size := Nat.lt_of_lt_of_le zfw10 hbw11.size
     have Qrw11 : Hid (RdReq w11 r ⟨ap, ta, ai, cp, ct, ci⟩) := Qrw10.out.mono hbw11
     have Qgw11 : Hid (ErrT w11) := Qgw10.out.later hbw11
     have Quw11 : Hid (Rd w11 (some ⟨gl, 0, none⟩) us.length us) := Rd.mono Quw10.out hbw11
     clear Hw10 Kxw10 zxw10 Ktw10 ztw10 Kfw10 zfw10 Qrw10 Qgw10 Quw10
     clear hbw11
     rw [hnm]
     go_wp2_with fail
     go_ret
     exact ⟨rfl, unhide Hw11⟩
   case true =>
    have hh := HCS.out rfl
    clear HCN HCS
    obtain ⟨xw9_0, xw9_1, xw9_2, xw9_3, xw9_4, xw9_5, xw9_6, xw9_7, xw9_8, xw9_9⟩ := Blk.cs10 Kxw9.out
    obtain ⟨tw9_0, tw9_1, tw9_2, tw9_3, tw9_4, tw9_5, tw9_6⟩ := Blk.cs7 Ktw9.out
    generalize masterV r = mv at *
    go_wp2_with fail
    clear xw9_0 xw9_1 xw9_2 xw9_3 xw9_4 xw9_5 xw9_6 xw9_7 xw9_8 xw9_9 tw9_0 tw9_1 tw9_2 tw9_3 tw9_4 tw9_5 tw9_6
    generalize hW : (w9.alloc (.cells #[.int .i64 mv.id, .int .i64 mv.wd, .int .i64 mv.ht, .int .i64 mv.dp, .int .i64 mv.tare, .int .i64 mv.gram, .int .i64 mv.cost] 54)) = w12 at *
    obtain ⟨hb, Kfw12, zfw12⟩ := en1 hW
    have hb := unhide hb
    have Hw12 : Hid (Below w.heap.size w w12) := Hw9.out.trans (hb.mono Hw9.out.size)
    have Kxw12 := hide (Blk.below hb zxw9 Kxw9.out)
    have zxw12 : w1.heap.size < w12.heap.size := Nat.lt_of_lt_of_le zxw9 hb.size
    have Ktw12 := hide (Blk.below hb ztw9 Ktw9.out)
    have ztw12 : w3.heap.size < w12.heap.size := Nat.lt_of_lt_of_le ztw9 hb.size
    have Qrw12 : Hid (RdReq w12 r ⟨ap, ta, ai, cp, ct, ci⟩) := Qrw9.out.mono hb
    have Qgw12 : Hid (ErrT w12) := Qgw9.out.later hb
    have Quw12 : Hid (Rd w12 (some ⟨gl, 0, none⟩) us.length us) := Rd.mono Quw9.out hb
    clear Hw9 Kxw9 zxw9 Ktw9 ztw9 Qrw9 Qgw9 Quw9
    clear hb hW
    refine (holds_any r ⟨ap, ta, ai, cp, ct, ci⟩ _ us.length cl us tv _ Qrw12.out hsm Qgw12.out Quw12.out hn7).mono ?_
    rintro e w13 ⟨rfl, hbw13⟩
    have Hw13 : Hid (Below w.heap.size w w13) := Hw12.out.trans (hbw13.mono Hw12.out.size)
    have Kxw13 := hide (Blk.below hbw13 zxw12 Kxw12.out)
    have zxw13 : w1.heap.size < w13.heap.size := Nat.lt_of_lt_of_le zxw12 hbw13.size
    have Ktw13 := hide (Blk.below hbw13 ztw12 Ktw12.out)
    have ztw13 : w3.heap.size < w13.heap.size := Nat.lt_of_lt_of_le ztw12 hbw13.size
    have Kfw13 := hide (Blk.below hbw13 zfw12 Kfw12.out)
    have zfw13 : w9.heap.size < w13.heap.size := Nat.lt_of_lt_of_le zfw12 hbw13.size
    have Qrw13 : Hid (RdReq w13 r ⟨ap, ta, ai, cp, ct, ci⟩) := Qrw12.out.mono hbw13
    have Qgw13 : Hid (ErrT w13) := Qgw12.out.later hbw13
    have Quw13 : Hid (Rd w13 (some ⟨gl, 0, none⟩) us.length us) := Rd.mono Quw12.out hbw13
    clear Hw12 Kxw12 zxw12 Ktw12 ztw12 Kfw12 zfw12 Qrw12 Qgw12 Quw12
    clear hbw13
    rw [hh]
    go_wp2_with fail
    go_ret
    exact ⟨rfl, unhide Hw13⟩
end Go.Proofs.YtcblpoeeembniabGreatDoor
