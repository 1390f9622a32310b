/- The packer of an order; next fit. -/
import Derived.Test.YtphdeojiehigpaaGreatDoorNextImpl
import Derived.Test.YtphdeojiehigpaaGreatDoorUnitsImpl
import Derived.Deep.DeepMust
import Derived.Deep.DeepCutAuto
import Derived.Deep.RegionHeld3
namespace Go.Proofs.YtphdeojiehigpaaGreatDoor
open Go Go.RowKit
set_option linter.unusedVariables false
set_option linter.unusedSimpArgs false

def bulksTo (xs : List ItemV) (k : Nat) : List BulkV := (List.range k).map fun (i : Nat) => ⟨volAt xs i, gramAt xs i⟩
theorem bulksTo_step (xs : List ItemV) (k : Nat) : bulksTo xs (k + 1) = bulksTo xs k ++ [⟨volAt xs k, gramAt xs k⟩] := by simp [bulksTo, List.range_succ]
theorem bulksTo_len (xs : List ItemV) (k : Nat) : (bulksTo xs k).length = k := by simp [bulksTo]
theorem bulksTo_at (xs : List ItemV) (N i : Nat) (h : i < N) : (bulksTo xs N).getD i default = ⟨volAt xs i, gramAt xs i⟩ := by simp [bulksTo, List.getD_eq_getElem?_getD, h]
theorem vol_one (xs : List ItemV) (u : Int) : volOf xs [u] = volAt xs u := by simp [volOf]
theorem gram_one (xs : List ItemV) (u : Int) : gramOf xs [u] = gramAt xs u := by simp [gramOf]
theorem each_of {w : World} {base N cap : Nat} {ea : Option Addr} {xs : List ItemV} (h : w.ownsRow base 126 2 (.slice ea N cap) N ((bulksTo xs N).flatMap BulkV.cells)) {g0 : Nat} (hg0 : g0 < w.heap.size) : ∃ eb, (0 < N → ea = some ⟨eb, 0, none⟩) ∧ EachOk w eb N xs ∧ (eb = g0 ∨ base ≤ eb) := by
  by_cases hN : 0 < N
  · obtain ⟨g, rfl⟩ := own_formV h hN
    refine ⟨g, fun _ => rfl, ⟨(h.lt g rfl).2, fun i hi => ?_⟩, .inr (h.lt g rfl).1⟩
    have h1 := bulks_at (bulksTo xs N) i (by rw [bulksTo_len]; exact hi)
    rw [bulksTo_at xs N i hi] at h1
    exact ⟨(h.cellAt (i * 2) (by omega)).trans h1.1, (h.cellAt (i * 2 + 1) (by omega)).trans h1.2⟩
  · exact ⟨g0, fun h => absurd h hN, ⟨hg0, fun i hi => by omega⟩, .inl rfl⟩

set_option maxRecDepth 100000 in
set_option maxHeartbeats 4000000 in
theorem masterMost_any (r : ReqV) (h : ReqH) (w : World) (hr : RdReq w r h) (htl : r.types.length ≤ 1048600) :
    Calls Tryz.prog 182 #[reqVal r h] w fun e w' => e = .returned (.agg #[.int .i64 (vol (masterV r).wd (masterV r).ht (masterV r).dp), .int .i64 (masterV r).gram]) ∧ Below w.heap.size w w' := by
  have HR := hide hr
  clear hr
  unfold reqVal
  go_enter Tryz.func182, Tryz.ntmps182
  go_wp2_with fail
  have BW : Hid (Below w.heap.size w ((w.alloc (.cells #[.int .i64 r.way, .int .i64 r.pal.wd, .int .i64 r.pal.dp, .int .i64 r.pal.ht, .int .i64 r.pal.gram, .int .i64 r.classes, .slice h.ap r.pairs.length h.cp, .slice h.at' r.types.length h.ct, .int .i64 r.master, .slice h.ai r.items.length h.ci] 40)).alloc (.cells #[.int .i64 0, .int .i64 0] 126))) := (((Below.refl _ _).alloc (by simp) _).alloc (by simp) _)
  have KaW : Hid (Blk ((w.alloc (.cells #[.int .i64 r.way, .int .i64 r.pal.wd, .int .i64 r.pal.dp, .int .i64 r.pal.ht, .int .i64 r.pal.gram, .int .i64 r.classes, .slice h.ap r.pairs.length h.cp, .slice h.at' r.types.length h.ct, .int .i64 r.master, .slice h.ai r.items.length h.ci] 40)).alloc (.cells #[.int .i64 0, .int .i64 0] 126)) w.heap.size [.int .i64 r.way, .int .i64 r.pal.wd, .int .i64 r.pal.dp, .int .i64 r.pal.ht, .int .i64 r.pal.gram, .int .i64 r.classes, .slice h.ap r.pairs.length h.cp, .slice h.at' r.types.length h.ct, .int .i64 r.master, .slice h.ai r.items.length h.ci]) := ((Blk.allocAt (w := w) [.int .i64 r.way, .int .i64 r.pal.wd, .int .i64 r.pal.dp, .int .i64 r.pal.ht, .int .i64 r.pal.gram, .int .i64 r.classes, .slice h.ap r.pairs.length h.cp, .slice h.at' r.types.length h.ct, .int .i64 r.master, .slice h.ai r.items.length h.ci] (by simp)).allocOld (by simp) _)
  have ZaW : w.heap.size < ((w.alloc (.cells #[.int .i64 r.way, .int .i64 r.pal.wd, .int .i64 r.pal.dp, .int .i64 r.pal.ht, .int .i64 r.pal.gram, .int .i64 r.classes, .slice h.ap r.pairs.length h.cp, .slice h.at' r.types.length h.ct, .int .i64 r.master, .slice h.ai r.items.length h.ci] 40)).alloc (.cells #[.int .i64 0, .int .i64 0] 126)).heap.size := by simp <;> omega
  have Ga : w.heap.size ≤ w.heap.size := by omega
  have KsW : Hid (Blk ((w.alloc (.cells #[.int .i64 r.way, .int .i64 r.pal.wd, .int .i64 r.pal.dp, .int .i64 r.pal.ht, .int .i64 r.pal.gram, .int .i64 r.classes, .slice h.ap r.pairs.length h.cp, .slice h.at' r.types.length h.ct, .int .i64 r.master, .slice h.ai r.items.length h.ci] 40)).alloc (.cells #[.int .i64 0, .int .i64 0] 126)) (w.heap.size + 1) [.int .i64 0, .int .i64 0]) := (Blk.allocAt (w := (w.alloc (.cells #[.int .i64 r.way, .int .i64 r.pal.wd, .int .i64 r.pal.dp, .int .i64 r.pal.ht, .int .i64 r.pal.gram, .int .i64 r.classes, .slice h.ap r.pairs.length h.cp, .slice h.at' r.types.length h.ct, .int .i64 r.master, .slice h.ai r.items.length h.ci] 40))) [.int .i64 0, .int .i64 0] (by simp))
  have ZsW : (w.heap.size + 1) < ((w.alloc (.cells #[.int .i64 r.way, .int .i64 r.pal.wd, .int .i64 r.pal.dp, .int .i64 r.pal.ht, .int .i64 r.pal.gram, .int .i64 r.classes, .slice h.ap r.pairs.length h.cp, .slice h.at' r.types.length h.ct, .int .i64 r.master, .slice h.ai r.items.length h.ci] 40)).alloc (.cells #[.int .i64 0, .int .i64 0] 126)).heap.size := by simp
  have Gs : w.heap.size ≤ (w.heap.size + 1) := by omega
  have Nqas : w.heap.size ≠ (w.heap.size + 1) := by omega
  have Nqsa : (w.heap.size + 1) ≠ w.heap.size := by omega
  generalize ((w.alloc (.cells #[.int .i64 r.way, .int .i64 r.pal.wd, .int .i64 r.pal.dp, .int .i64 r.pal.ht, .int .i64 r.pal.gram, .int .i64 r.classes, .slice h.ap r.pairs.length h.cp, .slice h.at' r.types.length h.ct, .int .i64 r.master, .slice h.ai r.items.length h.ci] 40)).alloc (.cells #[.int .i64 0, .int .i64 0] 126)) = W at *
  refine (masterOf_any r h _ ((unhide HR).mono (unhide BW)) htl).mono ?_
  rintro e v1 ⟨rfl, hb⟩
  have Bv1 := hide ((unhide BW).trans (hb.mono (unhide BW).size))
  have Kav1 := hide (Blk.below hb ZaW (unhide KaW))
  have Zav1 := Nat.lt_of_lt_of_le ZaW hb.size
  have Ksv1 := hide (Blk.below hb ZsW (unhide KsW))
  have Zsv1 := Nat.lt_of_lt_of_le ZsW hb.size
  clear hb
  clear BW KaW ZaW KsW ZsW
  go_wp2_with fail
  have Bv2 : Hid (Below w.heap.size w (v1.alloc (.cells #[.int .i64 (masterV r).id, .int .i64 (masterV r).wd, .int .i64 (masterV r).ht, .int .i64 (masterV r).dp, .int .i64 (masterV r).tare, .int .i64 (masterV r).gram, .int .i64 (masterV r).cost] 55))) := (unhide Bv1).alloc (unhide Bv1).size _
  have Ktv2 : Hid (Blk (v1.alloc (.cells #[.int .i64 (masterV r).id, .int .i64 (masterV r).wd, .int .i64 (masterV r).ht, .int .i64 (masterV r).dp, .int .i64 (masterV r).tare, .int .i64 (masterV r).gram, .int .i64 (masterV r).cost] 55)) v1.heap.size [.int .i64 (masterV r).id, .int .i64 (masterV r).wd, .int .i64 (masterV r).ht, .int .i64 (masterV r).dp, .int .i64 (masterV r).tare, .int .i64 (masterV r).gram, .int .i64 (masterV r).cost]) := Blk.allocAt [.int .i64 (masterV r).id, .int .i64 (masterV r).wd, .int .i64 (masterV r).ht, .int .i64 (masterV r).dp, .int .i64 (masterV r).tare, .int .i64 (masterV r).gram, .int .i64 (masterV r).cost] rfl
  have Ztv2 : v1.heap.size < (v1.alloc (.cells #[.int .i64 (masterV r).id, .int .i64 (masterV r).wd, .int .i64 (masterV r).ht, .int .i64 (masterV r).dp, .int .i64 (masterV r).tare, .int .i64 (masterV r).gram, .int .i64 (masterV r).cost] 55)).heap.size := by simp
  have Gt : w.heap.size ≤ v1.heap.size := (unhide Bv1).size
  have Kav2 : Hid (Blk (v1.alloc (.cells #[.int .i64 (masterV r).id, .int .i64 (masterV r).wd, .int .i64 (masterV r).ht, .int .i64 (masterV r).dp, .int .i64 (masterV r).tare, .int .i64 (masterV r).gram, .int .i64 (masterV r).cost] 55)) w.heap.size [.int .i64 r.way, .int .i64 r.pal.wd, .int .i64 r.pal.dp, .int .i64 r.pal.ht, .int .i64 r.pal.gram, .int .i64 r.classes, .slice h.ap r.pairs.length h.cp, .slice h.at' r.types.length h.ct, .int .i64 r.master, .slice h.ai r.items.length h.ci]) := (unhide Kav1).allocOld Zav1 _
  have Zav2 : w.heap.size < (v1.alloc (.cells #[.int .i64 (masterV r).id, .int .i64 (masterV r).wd, .int .i64 (masterV r).ht, .int .i64 (masterV r).dp, .int .i64 (masterV r).tare, .int .i64 (masterV r).gram, .int .i64 (masterV r).cost] 55)).heap.size := by simp <;> omega
  have Nqat : w.heap.size ≠ v1.heap.size := Nat.ne_of_lt Zav1
  have Nqta : v1.heap.size ≠ w.heap.size := Ne.symm Nqat
  have Ksv2 : Hid (Blk (v1.alloc (.cells #[.int .i64 (masterV r).id, .int .i64 (masterV r).wd, .int .i64 (masterV r).ht, .int .i64 (masterV r).dp, .int .i64 (masterV r).tare, .int .i64 (masterV r).gram, .int .i64 (masterV r).cost] 55)) (w.heap.size + 1) [.int .i64 0, .int .i64 0]) := (unhide Ksv1).allocOld Zsv1 _
  have Zsv2 : (w.heap.size + 1) < (v1.alloc (.cells #[.int .i64 (masterV r).id, .int .i64 (masterV r).wd, .int .i64 (masterV r).ht, .int .i64 (masterV r).dp, .int .i64 (masterV r).tare, .int .i64 (masterV r).gram, .int .i64 (masterV r).cost] 55)).heap.size := by simp <;> omega
  have Nqst : (w.heap.size + 1) ≠ v1.heap.size := Nat.ne_of_lt Zsv1
  have Nqts : v1.heap.size ≠ (w.heap.size + 1) := Ne.symm Nqst
  clear Bv1 Kav1 Zav1 Ksv1 Zsv1
  generalize (v1.alloc (.cells #[.int .i64 (masterV r).id, .int .i64 (masterV r).wd, .int .i64 (masterV r).ht, .int .i64 (masterV r).dp, .int .i64 (masterV r).tare, .int .i64 (masterV r).gram, .int .i64 (masterV r).cost] 55)) = v2 at *
  refine (mostOf_any (masterV r) _).mono ?_
  rintro e v3 ⟨rfl, hb⟩
  have Bv3 := hide ((unhide Bv2).trans (hb.mono (unhide Bv2).size))
  have Kav3 := hide (Blk.below hb Zav2 (unhide Kav2))
  have Zav3 := Nat.lt_of_lt_of_le Zav2 hb.size
  have Ksv3 := hide (Blk.below hb Zsv2 (unhide Ksv2))
  have Zsv3 := Nat.lt_of_lt_of_le Zsv2 hb.size
  have Ktv3 := hide (Blk.below hb Ztv2 (unhide Ktv2))
  have Ztv3 := Nat.lt_of_lt_of_le Ztv2 hb.size
  clear hb
  clear Bv2 Kav2 Zav2 Ksv2 Zsv2 Ktv2 Ztv2
  have cs0 : v3.cell? ⟨(w.heap.size + 1), 0, none⟩ = some (.int .i64 0) := ((unhide Ksv3) 0 (by simp)).1
  have fs0 : v3.frozen? ⟨(w.heap.size + 1), 0, none⟩ = false := ((unhide Ksv3) 0 (by simp)).2
  have cs1 : v3.cell? ⟨(w.heap.size + 1), 1, none⟩ = some (.int .i64 0) := ((unhide Ksv3) 1 (by simp)).1
  have fs1 : v3.frozen? ⟨(w.heap.size + 1), 1, none⟩ = false := ((unhide Ksv3) 1 (by simp)).2
  go_wp2
  have hk2 := Blk.fill2 (x := .int .i64 (vol (masterV r).wd (masterV r).ht (masterV r).dp)) (y := .int .i64 (masterV r).gram) (unhide Ksv3)
  have hB2 := ((unhide Bv3).setCell (p := ⟨(w.heap.size + 1), 0, none⟩) Gs (.int .i64 (vol (masterV r).wd (masterV r).ht (masterV r).dp))).setCell (p := ⟨(w.heap.size + 1), 1, none⟩) Gs (.int .i64 (masterV r).gram)
  generalize ((v3.setCell ⟨(w.heap.size + 1), 0, none⟩ (.int .i64 (vol (masterV r).wd (masterV r).ht (masterV r).dp))).setCell ⟨(w.heap.size + 1), 1, none⟩ (.int .i64 (masterV r).gram)) = X at *
  have k0 := (hk2 0 (by simp)).1
  have k1 := (hk2 1 (by simp)).1
  refine bodyPost_ret (v := .agg #[.int .i64 (vol (masterV r).wd (masterV r).ht (masterV r).dp), .int .i64 (masterV r).gram]) (by simp [results, Tryz.results182, go_sem, k0, k1]) rfl ?_
  exact ⟨rfl, hB2⟩

set_option maxRecDepth 100000 in
set_option maxHeartbeats 4000000 in
theorem packerOf_any (r : ReqV) (h : ReqH) (w : World) (hr : RdReq w r h) (hs : r.small) (hg : ErrT w) :
    Calls Tryz.prog 141 #[reqVal r h] w fun e w' => ∃ Bk eb ecap, ∃ ea, e = .returned (.pointer (some ⟨Bk, 0, none⟩)) ∧ w.heap.size ≤ Bk ∧ Bk < w'.heap.size ∧ Blk w' Bk [.slice ea (unitsR r).length ecap, .int .i64 (vol (masterV r).wd (masterV r).ht (masterV r).dp), .int .i64 (masterV r).gram, .slice none 0 0, .slice none 0 0] ∧ (0 < (unitsR r).length → ea = some ⟨eb, 0, none⟩) ∧ EachOk w' eb (unitsR r).length (itemsR r) ∧ eb ≠ Bk ∧ Below w.heap.size w w' := by
  obtain ⟨k0, hk0, hx0, hx1, hx2⟩ := info_parts Tryz.infoBulk
  have htl : r.types.length ≤ 1048600 := by unfold ReqV.small at hs; omega
  have HR := hide hr
  have HG := hide hg
  clear hr hg
  unfold reqVal
  go_enter Tryz.func141, Tryz.ntmps141
  go_wp2_with fail
  have BW : Hid (Below w.heap.size w (w.alloc (.cells #[.int .i64 r.way, .int .i64 r.pal.wd, .int .i64 r.pal.dp, .int .i64 r.pal.ht, .int .i64 r.pal.gram, .int .i64 r.classes, .slice h.ap r.pairs.length h.cp, .slice h.at' r.types.length h.ct, .int .i64 r.master, .slice h.ai r.items.length h.ci] 40))) := ((Below.refl _ _).alloc (by simp) _)
  have KaW : Hid (Blk (w.alloc (.cells #[.int .i64 r.way, .int .i64 r.pal.wd, .int .i64 r.pal.dp, .int .i64 r.pal.ht, .int .i64 r.pal.gram, .int .i64 r.classes, .slice h.ap r.pairs.length h.cp, .slice h.at' r.types.length h.ct, .int .i64 r.master, .slice h.ai r.items.length h.ci] 40)) w.heap.size [.int .i64 r.way, .int .i64 r.pal.wd, .int .i64 r.pal.dp, .int .i64 r.pal.ht, .int .i64 r.pal.gram, .int .i64 r.classes, .slice h.ap r.pairs.length h.cp, .slice h.at' r.types.length h.ct, .int .i64 r.master, .slice h.ai r.items.length h.ci]) := (Blk.allocAt (w := w) [.int .i64 r.way, .int .i64 r.pal.wd, .int .i64 r.pal.dp, .int .i64 r.pal.ht, .int .i64 r.pal.gram, .int .i64 r.classes, .slice h.ap r.pairs.length h.cp, .slice h.at' r.types.length h.ct, .int .i64 r.master, .slice h.ai r.items.length h.ci] (by simp))
  have ZaW : w.heap.size < (w.alloc (.cells #[.int .i64 r.way, .int .i64 r.pal.wd, .int .i64 r.pal.dp, .int .i64 r.pal.ht, .int .i64 r.pal.gram, .int .i64 r.classes, .slice h.ap r.pairs.length h.cp, .slice h.at' r.types.length h.ct, .int .i64 r.master, .slice h.ai r.items.length h.ci] 40)).heap.size := by simp
  have Ga : w.heap.size ≤ w.heap.size := by omega
  generalize (w.alloc (.cells #[.int .i64 r.way, .int .i64 r.pal.wd, .int .i64 r.pal.dp, .int .i64 r.pal.ht, .int .i64 r.pal.gram, .int .i64 r.classes, .slice h.ap r.pairs.length h.cp, .slice h.at' r.types.length h.ct, .int .i64 r.master, .slice h.ai r.items.length h.ci] 40)) = W at *
  refine (masterMost_any r h _ ((unhide HR).mono (unhide BW)) htl).mono ?_
  rintro e v1 ⟨rfl, hb⟩
  have Bv1 := hide ((unhide BW).trans (hb.mono (unhide BW).size))
  have Kav1 := hide (Blk.below hb ZaW (unhide KaW))
  have Zav1 := Nat.lt_of_lt_of_le ZaW hb.size
  clear hb
  clear BW KaW ZaW
  obtain ⟨ca0, ca1, ca2, ca3, ca4, ca5, ca6, ca7, ca8, ca9⟩ := Blk.cs10 (unhide Kav1)
  go_wp2_with fail
  clear ca0 ca1 ca2 ca3 ca4 ca5 ca6 ca7 ca8 ca9
  have Bv2 : Hid (Below w.heap.size w (v1.alloc (.cells #[.slice none 0 0, .int .i64 (vol (masterV r).wd (masterV r).ht (masterV r).dp), .int .i64 (masterV r).gram, .slice none 0 0, .slice none 0 0] 169))) := (unhide Bv1).alloc (unhide Bv1).size _
  have Kpv2 : Hid (Blk (v1.alloc (.cells #[.slice none 0 0, .int .i64 (vol (masterV r).wd (masterV r).ht (masterV r).dp), .int .i64 (masterV r).gram, .slice none 0 0, .slice none 0 0] 169)) v1.heap.size [.slice none 0 0, .int .i64 (vol (masterV r).wd (masterV r).ht (masterV r).dp), .int .i64 (masterV r).gram, .slice none 0 0, .slice none 0 0]) := Blk.allocAt [.slice none 0 0, .int .i64 (vol (masterV r).wd (masterV r).ht (masterV r).dp), .int .i64 (masterV r).gram, .slice none 0 0, .slice none 0 0] rfl
  have Zpv2 : v1.heap.size < (v1.alloc (.cells #[.slice none 0 0, .int .i64 (vol (masterV r).wd (masterV r).ht (masterV r).dp), .int .i64 (masterV r).gram, .slice none 0 0, .slice none 0 0] 169)).heap.size := by simp
  have Gp : w.heap.size ≤ v1.heap.size := (unhide Bv1).size
  have Kav2 : Hid (Blk (v1.alloc (.cells #[.slice none 0 0, .int .i64 (vol (masterV r).wd (masterV r).ht (masterV r).dp), .int .i64 (masterV r).gram, .slice none 0 0, .slice none 0 0] 169)) w.heap.size [.int .i64 r.way, .int .i64 r.pal.wd, .int .i64 r.pal.dp, .int .i64 r.pal.ht, .int .i64 r.pal.gram, .int .i64 r.classes, .slice h.ap r.pairs.length h.cp, .slice h.at' r.types.length h.ct, .int .i64 r.master, .slice h.ai r.items.length h.ci]) := (unhide Kav1).allocOld Zav1 _
  have Zav2 : w.heap.size < (v1.alloc (.cells #[.slice none 0 0, .int .i64 (vol (masterV r).wd (masterV r).ht (masterV r).dp), .int .i64 (masterV r).gram, .slice none 0 0, .slice none 0 0] 169)).heap.size := by simp <;> omega
  have Nqap : w.heap.size ≠ v1.heap.size := Nat.ne_of_lt Zav1
  have Nqpa : v1.heap.size ≠ w.heap.size := Ne.symm Nqap
  clear Bv1 Kav1 Zav1
  generalize (v1.alloc (.cells #[.slice none 0 0, .int .i64 (vol (masterV r).wd (masterV r).ht (masterV r).dp), .int .i64 (masterV r).gram, .slice none 0 0, .slice none 0 0] 169)) = v2 at *
  have HB1 : Hid (v1.heap.size < v2.heap.size) := Zpv2
  refine (units_any r h _ ((unhide HR).mono (unhide Bv2)) hs ((unhide HG).later (unhide Bv2))).mono ?_
  rintro e v3 ⟨gp, cp, rfl, hgo, hb⟩
  have Bv3 := hide ((unhide Bv2).trans (hb.mono (unhide Bv2).size))
  have Kav3 := hide (Blk.below hb Zav2 (unhide Kav2))
  have Zav3 := Nat.lt_of_lt_of_le Zav2 hb.size
  have Kpv3 := hide (Blk.below hb Zpv2 (unhide Kpv2))
  have Zpv3 := Nat.lt_of_lt_of_le Zpv2 hb.size
  have hszv := hb.size
  clear hb
  clear Bv2 Kav2 Zav2 Kpv2 Zpv2
  have hN12 := unitsR_len r
  clear hgo
  obtain ⟨N, hN⟩ : ∃ N, N = (unitsR r).length := ⟨_, rfl⟩
  rw [← hN] at hN12 ⊢
  have HN := hide hN
  clear hN
  obtain ⟨bs, hbs⟩ : ∃ b, b = v2.heap.size := ⟨_, rfl⟩
  have HBS : Hid (bs ≤ v3.heap.size) := by rw [Hid, hbs]; exact hszv
  have HBW : Hid (w.heap.size ≤ bs) := by rw [Hid, hbs]; have := Gp; have := unhide HB1; omega
  have HBP : Hid (v1.heap.size < bs ∧ w.heap.size < bs) := by rw [hbs]; have := Gp; have := unhide HB1; exact ⟨by omega, by omega⟩
  have HGP : Hid (w.heap.size < v1.heap.size) := by rw [Hid]; have := Gp; have := Nqap; omega
  clear hbs hszv
  generalize v1.heap.size = pb at *
  go_wp2
  go_loopw [12] (fun i wr => ∃ (k ec : Nat) (ea : Option Addr), k ≤ N ∧ i = .int .i64 k ∧ Blk wr pb [.slice ea k ec, .int .i64 (vol (masterV r).wd (masterV r).ht (masterV r).dp), .int .i64 (masterV r).gram, .slice none 0 0, .slice none 0 0] ∧ pb < wr.heap.size ∧ Blk wr w.heap.size [.int .i64 r.way, .int .i64 r.pal.wd, .int .i64 r.pal.dp, .int .i64 r.pal.ht, .int .i64 r.pal.gram, .int .i64 r.classes, .slice h.ap r.pairs.length h.cp, .slice h.at' r.types.length h.ct, .int .i64 r.master, .slice h.ai r.items.length h.ci] ∧ w.heap.size < wr.heap.size ∧ wr.ownsRow bs 126 2 (.slice ea k ec) k ((bulksTo (itemsR r) k).flatMap BulkV.cells) ∧ bs ≤ wr.heap.size ∧ Below w.heap.size w wr) (fun i _ => N - (intOf i).toNat)
  case atStart => exact ⟨0, 0, none, Nat.zero_le _, rfl, unhide Kpv3, Zpv3, unhide Kav3, Zav3, World.ownsRow_nil _ _ _ _, unhide HBS, unhide Bv3⟩
  case round =>
    clear Kpv3 Zpv3 Kav3 Zav3 Bv3 HBS
    obtain ⟨k, ec, ea, hk, rfl, kp, Zpwr, ka, Zawr, ho, hbs, hb⟩ := hrel
    have Bwr := hide hb
    have Kpwr := hide kp
    have Kawr := hide ka
    have QEwr := hide ho
    have QSwr := hide hbs
    clear kp ka ho hb hbs
    by_cases hlk : k < N
    case neg =>
      obtain rfl : k = N := by omega
      obtain ⟨eb, h1, h2, h3⟩ := each_of (unhide QEwr) Zawr
      have HN2 := unhide HN
      have hbp := unhide HBP
      have hgp := unhide HGP
      have H1 := hide h1
      have H2 := hide h2
      clear h1 h2
      go_wp2
      go_ret
      subst HN2
      exact ⟨pb, eb, ec, ea, rfl, by omega, Zpwr, unhide Kpwr, unhide H1, unhide H2, by rcases h3 with h3 | h3 <;> omega, unhide Bwr⟩
    go_upto_region 5 with fail
    refine wp_region_noPanic ?_
    have Bu0 : Hid (Below w.heap.size w wr.drew) := (unhide Bwr).drew
    have QEu0 : Hid (wr.drew.ownsRow bs 126 2 (.slice ea k ec) k ((bulksTo (itemsR r) k).flatMap BulkV.cells)) := own_laterV (unhide QEwr) (Below.refl _ _).drew
    have QSu0 : Hid (bs ≤ wr.drew.heap.size) := Nat.le_trans (unhide QSwr) (Below.size (B := 0) (Below.mono (Below.refl 0 _).drew (Nat.zero_le _)))
    have Kau0 : Hid (Blk wr.drew w.heap.size [.int .i64 r.way, .int .i64 r.pal.wd, .int .i64 r.pal.dp, .int .i64 r.pal.ht, .int .i64 r.pal.gram, .int .i64 r.classes, .slice h.ap r.pairs.length h.cp, .slice h.at' r.types.length h.ct, .int .i64 r.master, .slice h.ai r.items.length h.ci]) := unhide Kawr
    have Zau0 : w.heap.size < wr.drew.heap.size := Zawr
    have Kpu0 : Hid (Blk wr.drew pb [.slice ea k ec, .int .i64 (vol (masterV r).wd (masterV r).ht (masterV r).dp), .int .i64 (masterV r).gram, .slice none 0 0, .slice none 0 0]) := unhide Kpwr
    have Zpu0 : pb < wr.drew.heap.size := Zpwr
    obtain ⟨S, hSdef⟩ : ∃ S : World → Prop, S = (fun w' => w'.cell? ⟨w.heap.size, 0, none⟩ = some (.int .i64 r.way) ∧ w'.cell? ⟨w.heap.size, 1, none⟩ = some (.int .i64 r.pal.wd) ∧ w'.cell? ⟨w.heap.size, 2, none⟩ = some (.int .i64 r.pal.dp) ∧ w'.cell? ⟨w.heap.size, 3, none⟩ = some (.int .i64 r.pal.ht) ∧ w'.cell? ⟨w.heap.size, 4, none⟩ = some (.int .i64 r.pal.gram) ∧ w'.cell? ⟨w.heap.size, 5, none⟩ = some (.int .i64 r.classes) ∧ w'.cell? ⟨w.heap.size, 6, none⟩ = some (.slice h.ap r.pairs.length h.cp) ∧ w'.cell? ⟨w.heap.size, 7, none⟩ = some (.slice h.at' r.types.length h.ct) ∧ w'.cell? ⟨w.heap.size, 8, none⟩ = some (.int .i64 r.master) ∧ w'.cell? ⟨w.heap.size, 9, none⟩ = some (.slice h.ai r.items.length h.ci) ∧ w'.cell? ⟨pb, 0, none⟩ = some (.slice ea k ec)) := ⟨_, rfl⟩
    have hSmk : ∀ wq, Blk wq w.heap.size [.int .i64 r.way, .int .i64 r.pal.wd, .int .i64 r.pal.dp, .int .i64 r.pal.ht, .int .i64 r.pal.gram, .int .i64 r.classes, .slice h.ap r.pairs.length h.cp, .slice h.at' r.types.length h.ct, .int .i64 r.master, .slice h.ai r.items.length h.ci] → Blk wq pb [.slice ea k ec, .int .i64 (vol (masterV r).wd (masterV r).ht (masterV r).dp), .int .i64 (masterV r).gram, .slice none 0 0, .slice none 0 0] → S wq := fun wq ka kp => by rw [hSdef]; exact ⟨(ka 0 (by simp)).1, (ka 1 (by simp)).1, (ka 2 (by simp)).1, (ka 3 (by simp)).1, (ka 4 (by simp)).1, (ka 5 (by simp)).1, (ka 6 (by simp)).1, (ka 7 (by simp)).1, (ka 8 (by simp)).1, (ka 9 (by simp)).1, (kp 0 (by simp)).1⟩
    have hSd : ∀ wq, S wq → (fun w' => w'.cell? ⟨w.heap.size, 0, none⟩ = some (.int .i64 r.way) ∧ w'.cell? ⟨w.heap.size, 1, none⟩ = some (.int .i64 r.pal.wd) ∧ w'.cell? ⟨w.heap.size, 2, none⟩ = some (.int .i64 r.pal.dp) ∧ w'.cell? ⟨w.heap.size, 3, none⟩ = some (.int .i64 r.pal.ht) ∧ w'.cell? ⟨w.heap.size, 4, none⟩ = some (.int .i64 r.pal.gram) ∧ w'.cell? ⟨w.heap.size, 5, none⟩ = some (.int .i64 r.classes) ∧ w'.cell? ⟨w.heap.size, 6, none⟩ = some (.slice h.ap r.pairs.length h.cp) ∧ w'.cell? ⟨w.heap.size, 7, none⟩ = some (.slice h.at' r.types.length h.ct) ∧ w'.cell? ⟨w.heap.size, 8, none⟩ = some (.int .i64 r.master) ∧ w'.cell? ⟨w.heap.size, 9, none⟩ = some (.slice h.ai r.items.length h.ci) ∧ w'.cell? ⟨pb, 0, none⟩ = some (.slice ea k ec)) wq := fun wq h => by rw [hSdef] at h; exact h
    clear hSdef
    have hHeld : S wr.drew := hSmk wr.drew (unhide Kau0) (unhide Kpu0)
    refine wp_region_to (S := S) (T := [13]) (by kernel_rfl) hHeld (fun _ => ?_)
    generalize wr.drew = u0 at *
    refine wpTo_tk (i := 0) (v := ?_) rfl (by kernel_rfl) (Or.inl ⟨by rfl, ?_⟩) (by assumption) ?_
    rotate_left
    · intro w hSw
      have hSw := hSd _ hSw
      (try dsimp only at hSw)
      go_simp <;> with_reducible rfl
    refine wpTo_tk (i := 1) (v := ?_) rfl (by kernel_rfl) (Or.inl ⟨by rfl, ?_⟩) (by assumption) ?_
    rotate_left
    · intro w hSw
      have hSw := hSd _ hSw
      (try dsimp only at hSw)
      go_simp <;> with_reducible rfl
    refine wpTo_tk (i := 2) (v := ?_) rfl (by kernel_rfl) (Or.inl ⟨by rfl, ?_⟩) (by assumption) ?_
    rotate_left
    · intro w hSw
      have hSw := hSd _ hSw
      (try dsimp only at hSw)
      go_simp <;> with_reducible rfl
    try simp only [Act.put, List.getElem_toArray, List.getElem_cons_zero, List.getElem_cons_succ, List.setIfInBounds_toArray, List.set_cons_zero, List.set_cons_succ]
    refine wpTo_tk (i := 3) (v := ?_) rfl (by kernel_rfl) (Or.inl ⟨by rfl, ?_⟩) (by assumption) ?_
    rotate_left
    · intro w hSw
      have hSw := hSd _ hSw
      (try dsimp only at hSw)
      go_simp <;> with_reducible rfl
    refine wpTo_tk (i := 4) (v := ?_) rfl (by kernel_rfl) (Or.inl ⟨by rfl, ?_⟩) (by assumption) ?_
    rotate_left
    · intro w hSw
      have hSw := hSd _ hSw
      (try dsimp only at hSw)
      go_simp <;> with_reducible rfl
    refine wpTo_tk (i := 5) (v := ?_) rfl (by kernel_rfl) (Or.inl ⟨by rfl, ?_⟩) (by assumption) ?_
    rotate_left
    · intro w hSw
      have hSw := hSd _ hSw
      (try dsimp only at hSw)
      go_simp <;> with_reducible rfl
    try simp only [Act.put, List.getElem_toArray, List.getElem_cons_zero, List.getElem_cons_succ, List.setIfInBounds_toArray, List.set_cons_zero, List.set_cons_succ]
    refine wpTo_tk (i := 6) (v := ?_) rfl (by kernel_rfl) (Or.inl ⟨by rfl, ?_⟩) (by assumption) ?_
    rotate_left
    · intro w hSw
      have hSw := hSd _ hSw
      (try dsimp only at hSw)
      go_simp <;> with_reducible rfl
    try simp only [Act.put, List.getElem_toArray, List.getElem_cons_zero, List.getElem_cons_succ, List.setIfInBounds_toArray, List.set_cons_zero, List.set_cons_succ]
    refine wpTo_ready (rs := [7]) (by kernel_rfl) (by simp) ?_
    refine AllTo.cons (o := _) rfl (fun K hK => ?_) ?_
    ·
     (try simp only [List.getElem_toArray, List.getElem_cons_zero, List.getElem_cons_succ])
     have QEu1 := hide (own_laterV (unhide QEu0) ((Below.refl _ _).alloc (Nat.le_refl _) (.cells #[.int .i64 (k : Int)] 3)))
     have QSu1 := hide (Nat.le_trans (unhide QSu0) (Nat.le_of_lt (lt_alloc_new u0 (.cells #[.int .i64 (k : Int)] 3))))
     have Bu1 := hide ((unhide Bu0).alloc (unhide Bu0).size (.cells #[.int .i64 (k : Int)] 3))
     have Kuu1 : Hid (Blk (u0.alloc (.cells #[.int .i64 (k : Int)] 3)) u0.heap.size [.int .i64 (k : Int)]) := Blk.allocAt [.int .i64 (k : Int)] rfl
     have Zuu1 := lt_alloc_new u0 (.cells #[.int .i64 (k : Int)] 3)
     have Gu : w.heap.size ≤ u0.heap.size := (unhide Bu0).size
     have Kau1 := hide ((unhide Kau0).allocOld Zau0 (.cells #[.int .i64 (k : Int)] 3))
     have Zau1 := lt_alloc Zau0 (.cells #[.int .i64 (k : Int)] 3)
     have Nqau : w.heap.size ≠ u0.heap.size := Nat.ne_of_lt Zau0
     have Nqua := Ne.symm Nqau
     have Kpu1 := hide ((unhide Kpu0).allocOld Zpu0 (.cells #[.int .i64 (k : Int)] 3))
     have Zpu1 := lt_alloc Zpu0 (.cells #[.int .i64 (k : Int)] 3)
     have Nqpu : pb ≠ u0.heap.size := Nat.ne_of_lt Zpu0
     have Nqup := Ne.symm Nqpu
     go_simp
     clear hHeld
     clear Bu0 Kau0 Zau0 Kpu0 Zpu0 QEu0 QSu0
     generalize (u0.alloc (.cells #[.int .i64 (k : Int)] 3)) = u1 at *
     have hHeld := hSmk u1 (unhide Kau1) (unhide Kpu1)
     refine hK.out _ _ (fun _ => hHeld) ?_
     clear hK K
     try simp only [Act.put, List.getElem_toArray, List.getElem_cons_zero, List.getElem_cons_succ, List.setIfInBounds_toArray, List.set_cons_zero, List.set_cons_succ]
     refine wpTo_ready (rs := [8]) (by kernel_rfl) (by simp) ?_
     refine AllTo.cons (o := _) rfl (fun K hK => ?_) ?_
     ·
      (try simp only [List.getElem_toArray, List.getElem_cons_zero, List.getElem_cons_succ])
      go_simp
      refine (bulkOf_any r h _ 1 _ [(k : Int)] u1 ((unhide HR).mono (unhide Bu1)) hs ((unhide HG).later (unhide Bu1)) (Rd.of_blk1 (unhide Kuu1)) (by omega)).mono ?_
      rintro e u2 ⟨rfl, hb⟩
      have Bu2 := hide ((unhide Bu1).trans (hb.mono (unhide Bu1).size))
      have Kau2 := hide (Blk.below hb Zau1 (unhide Kau1))
      have Zau2 := Nat.lt_of_lt_of_le Zau1 hb.size
      have Kpu2 := hide (Blk.below hb Zpu1 (unhide Kpu1))
      have Zpu2 := Nat.lt_of_lt_of_le Zpu1 hb.size
      have Kuu2 := hide (Blk.below hb Zuu1 (unhide Kuu1))
      have Zuu2 := Nat.lt_of_lt_of_le Zuu1 hb.size
      have QEu2 : Hid (u2.ownsRow bs 126 2 (.slice ea k ec) k ((bulksTo (itemsR r) k).flatMap BulkV.cells)) := own_laterV (unhide QEu1) hb
      have QSu2 : Hid (bs ≤ u2.heap.size) := Nat.le_trans (unhide QSu1) (Below.size (B := 0) (Below.mono hb (Nat.zero_le _)))
      rw [vol_one, gram_one]
      clear hb
      clear Bu1 Kau1 Zau1 Kpu1 Zpu1 Kuu1 Zuu1 QEu1 QSu1
      clear hHeld
      go_wp2_with fail
      have hHeld := hSmk u2 (unhide Kau2) (unhide Kpu2)
      refine hK.out _ _ (fun _ => hHeld) ?_
      clear hK K
      try simp only [Act.put, List.getElem_toArray, List.getElem_cons_zero, List.getElem_cons_succ, List.setIfInBounds_toArray, List.set_cons_zero, List.set_cons_succ]
      refine wpTo_ready (rs := [9]) (by kernel_rfl) (by simp) ?_
      refine AllTo.cons (o := _) rfl (fun K hK => ?_) ?_
      ·
       (try simp only [List.getElem_toArray, List.getElem_cons_zero, List.getElem_cons_succ])
       have QEu3 := hide (own_laterV (unhide QEu2) ((Below.refl _ _).alloc (Nat.le_refl _) (.cells #[.int .i64 (volAt (itemsR r) (k : Int)), .int .i64 (gramAt (itemsR r) (k : Int))] 126)))
       have QSu3 := hide (Nat.le_trans (unhide QSu2) (Nat.le_of_lt (lt_alloc_new u2 (.cells #[.int .i64 (volAt (itemsR r) (k : Int)), .int .i64 (gramAt (itemsR r) (k : Int))] 126))))
       have Bu3 := hide ((unhide Bu2).alloc (unhide Bu2).size (.cells #[.int .i64 (volAt (itemsR r) (k : Int)), .int .i64 (gramAt (itemsR r) (k : Int))] 126))
       have Kbu3 : Hid (Blk (u2.alloc (.cells #[.int .i64 (volAt (itemsR r) (k : Int)), .int .i64 (gramAt (itemsR r) (k : Int))] 126)) u2.heap.size [.int .i64 (volAt (itemsR r) (k : Int)), .int .i64 (gramAt (itemsR r) (k : Int))]) := Blk.allocAt [.int .i64 (volAt (itemsR r) (k : Int)), .int .i64 (gramAt (itemsR r) (k : Int))] rfl
       have Zbu3 := lt_alloc_new u2 (.cells #[.int .i64 (volAt (itemsR r) (k : Int)), .int .i64 (gramAt (itemsR r) (k : Int))] 126)
       have Gb : w.heap.size ≤ u2.heap.size := (unhide Bu2).size
       have Kau3 := hide ((unhide Kau2).allocOld Zau2 (.cells #[.int .i64 (volAt (itemsR r) (k : Int)), .int .i64 (gramAt (itemsR r) (k : Int))] 126))
       have Zau3 := lt_alloc Zau2 (.cells #[.int .i64 (volAt (itemsR r) (k : Int)), .int .i64 (gramAt (itemsR r) (k : Int))] 126)
       have Nqab : w.heap.size ≠ u2.heap.size := Nat.ne_of_lt Zau2
       have Nqba := Ne.symm Nqab
       have Kpu3 := hide ((unhide Kpu2).allocOld Zpu2 (.cells #[.int .i64 (volAt (itemsR r) (k : Int)), .int .i64 (gramAt (itemsR r) (k : Int))] 126))
       have Zpu3 := lt_alloc Zpu2 (.cells #[.int .i64 (volAt (itemsR r) (k : Int)), .int .i64 (gramAt (itemsR r) (k : Int))] 126)
       have Nqpb : pb ≠ u2.heap.size := Nat.ne_of_lt Zpu2
       have Nqbp := Ne.symm Nqpb
       have Kuu3 := hide ((unhide Kuu2).allocOld Zuu2 (.cells #[.int .i64 (volAt (itemsR r) (k : Int)), .int .i64 (gramAt (itemsR r) (k : Int))] 126))
       have Zuu3 := lt_alloc Zuu2 (.cells #[.int .i64 (volAt (itemsR r) (k : Int)), .int .i64 (gramAt (itemsR r) (k : Int))] 126)
       have Nqub : u0.heap.size ≠ u2.heap.size := Nat.ne_of_lt Zuu2
       have Nqbu := Ne.symm Nqub
       go_simp
       clear hHeld
       clear Bu2 Kau2 Zau2 Kpu2 Zpu2 Kuu2 Zuu2 QEu2 QSu2
       generalize (u2.alloc (.cells #[.int .i64 (volAt (itemsR r) (k : Int)), .int .i64 (gramAt (itemsR r) (k : Int))] 126)) = u3 at *
       have hHeld := hSmk u3 (unhide Kau3) (unhide Kpu3)
       refine hK.out _ _ (fun _ => hHeld) ?_
       clear hK K
       try simp only [Act.put, List.getElem_toArray, List.getElem_cons_zero, List.getElem_cons_succ, List.setIfInBounds_toArray, List.set_cons_zero, List.set_cons_succ]
       refine wpTo_ready (rs := [10]) (by kernel_rfl) (by simp) ?_
       refine AllTo.cons (o := _) rfl (fun K hK => ?_) ?_
       ·
        skip
        refine step_append_lies _ (by rfl) _ _ 167 (by rfl) bs 126 k0 (.agg #[.int .i64 0, .int .i64 0]) 2 16 Tryz.underlying167 hk0 hx0 hx1 hx2 rfl (by omega) (.slice ea k ec) k ((bulksTo (itemsR r) k).flatMap BulkV.cells) (by rfl) (unhide QEu3) ⟨u2.heap.size, 0, none⟩ 1 1 [.int .i64 (volAt (itemsR r) (k : Int)), .int .i64 (gramAt (itemsR r) (k : Int))] (by rfl) rfl (unhide Kbu3).news (by simp [Value.oneCell']) (by omega) (by unfold maxLen; omega) (by omega) (unhide QSu3) u3.heap.size rfl ?_
        intro g3 cap3 u4 ho hg hat hlt
        have Bu4 := hide ((unhide Bu3).grown hg (unhide Bu3).size (fun q hq => by have := ((unhide QEu3).lt q hq).1; have := unhide HBW; omega))
        have Kau4 := hide ((unhide Kau3).keep (hg.block _ Zau3 (fun e => by have := ((unhide QEu3).lt _ e.symm).1; have := unhide HBP; omega)))
        have Zau4 := Nat.lt_of_lt_of_le Zau3 hg.size
        have Kpu4 := hide ((unhide Kpu3).keep (hg.block _ Zpu3 (fun e => by have := ((unhide QEu3).lt _ e.symm).1; have := unhide HBP; omega)))
        have Zpu4 := Nat.lt_of_lt_of_le Zpu3 hg.size
        have HOW := hide ho
        clear ho hg hat hlt hHeld
        clear Bu3 Kau3 Zau3 Kpu3 Zpu3 Kuu3 Zuu3 Kbu3 Zbu3 QEu3 QSu3
        have hHeld := hSmk u4 (unhide Kau4) (unhide Kpu4)
        refine hK.out _ _ (fun _ => hHeld) ?_
        clear hK K
        try simp only [Act.put, List.getElem_toArray, List.getElem_cons_zero, List.getElem_cons_succ, List.setIfInBounds_toArray, List.set_cons_zero, List.set_cons_succ]
        refine wpTo_tk (i := 11) (v := ?_) rfl (by kernel_rfl) (Or.inl ⟨by rfl, ?_⟩) (by assumption) ?_
        rotate_left
        · intro w hSw
          have hSw := hSd _ hSw
          (try dsimp only at hSw)
          go_simp <;> with_reducible rfl
        refine wpTo_tk (i := 12) (v := ?_) rfl (by kernel_rfl) (Or.inl ⟨by rfl, ?_⟩) (by assumption) ?_
        rotate_left
        · intro w hSw
          have hSw := hSd _ hSw
          (try dsimp only at hSw)
          go_simp <;> with_reducible rfl
        try simp only [Act.put, List.getElem_toArray, List.getElem_cons_zero, List.getElem_cons_succ, List.setIfInBounds_toArray, List.set_cons_zero, List.set_cons_succ]
        refine wpTo_ready (rs := [13]) (by kernel_rfl) (by simp) ?_
        refine AllTo.cons (o := _) rfl (fun K hK => ?_) ?_
        ·
         (try simp only [List.getElem_toArray, List.getElem_cons_zero, List.getElem_cons_succ])
         have p0 := ((unhide Kpu4) 0 (by simp)).1
         have q0 := ((unhide Kpu4) 0 (by simp)).2
         go_simp
         clear p0 q0
         have Bu5 : Hid (Below w.heap.size w (u4.setCell ⟨pb, 0, none⟩ (.slice (some ⟨g3, 0, none⟩) (k + 1) cap3))) := (unhide Bu4).setCell Gp _
         have Kpu5 : Hid (Blk (u4.setCell ⟨pb, 0, none⟩ (.slice (some ⟨g3, 0, none⟩) (k + 1) cap3)) pb [.slice (some ⟨g3, 0, none⟩) (k + 1) cap3, .int .i64 (vol (masterV r).wd (masterV r).ht (masterV r).dp), .int .i64 (masterV r).gram, .slice none 0 0, .slice none 0 0]) := (unhide Kpu4).set (j := 0) (v := .slice (some ⟨g3, 0, none⟩) (k + 1) cap3) (by simp)
         have Zpu5 : pb < (u4.setCell ⟨pb, 0, none⟩ (.slice (some ⟨g3, 0, none⟩) (k + 1) cap3)).heap.size := by simpa using Zpu4
         have Kau5 : Hid (Blk (u4.setCell ⟨pb, 0, none⟩ (.slice (some ⟨g3, 0, none⟩) (k + 1) cap3)) w.heap.size [.int .i64 r.way, .int .i64 r.pal.wd, .int .i64 r.pal.dp, .int .i64 r.pal.ht, .int .i64 r.pal.gram, .int .i64 r.classes, .slice h.ap r.pairs.length h.cp, .slice h.at' r.types.length h.ct, .int .i64 r.master, .slice h.ai r.items.length h.ci]) := (unhide Kau4).other Nqap
         have Zau5 : w.heap.size < (u4.setCell ⟨pb, 0, none⟩ (.slice (some ⟨g3, 0, none⟩) (k + 1) cap3)).heap.size := by simpa using Zau4
         clear hHeld
         clear Bu4 Kau4 Zau4 Kpu4 Zpu4
         have HOW2 := hide (ownsRow_setCell_below (unhide HOW) (a := ⟨pb, 0, none⟩) (unhide HBP).1 (.slice (some ⟨g3, 0, none⟩) (k + 1) cap3))
         generalize (u4.setCell ⟨pb, 0, none⟩ (.slice (some ⟨g3, 0, none⟩) (k + 1) cap3)) = u5 at *
         refine hK.out _ _ (fun hn => absurd (by decide) hn) ?_
         clear hK K
         try simp only [Act.put, List.getElem_toArray, List.getElem_cons_zero, List.getElem_cons_succ, List.setIfInBounds_toArray, List.set_cons_zero, List.set_cons_succ]
         refine wpTo_done (by kernel_rfl) ?_ _
         refine NoPanic.normal ?_
         have hbs2 : bs ≤ u5.heap.size := by have := (unhide HOW2).lt g3 rfl; omega
         have HO3 : Hid (u5.ownsRow bs 126 2 (.slice (some ⟨g3, 0, none⟩) (k + 1) cap3) (k + 1) ((bulksTo (itemsR r) (k + 1)).flatMap BulkV.cells)) := by rw [Hid, bulksTo_step, List.flatMap_append]; exact unhide HOW2
         go_wp2
         go_roundw
         case rel => exact ⟨k + 1, cap3, some ⟨g3, 0, none⟩, by omega, by go_num, unhide Kpu5, Zpu5, unhide Kau5, Zau5, unhide HO3, hbs2, unhide Bu5⟩
         case measure => simp [intOf]; omega
        exact AllTo.nil
       exact AllTo.nil
      exact AllTo.nil
     exact AllTo.nil
    exact AllTo.nil
end Go.Proofs.YtphdeojiehigpaaGreatDoor
