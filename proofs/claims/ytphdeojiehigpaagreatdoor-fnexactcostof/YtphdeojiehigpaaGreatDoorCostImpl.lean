/- What cartons cost: the program. -/
import Derived.Test.YtphdeojiehigpaaGreatDoorCarPlain
import Derived.Test.YtphdeojiehigpaaGreatDoorPkF
import Derived.Test.YtphdeojiehigpaaGreatDoorLowPlain
import Derived.Test.YtphdeojiehigpaaGreatDoorAppendSome
import Derived.Test.YtphdeojiehigpaaGreatDoorInvR
import Derived.Deep.DeepMust
import Derived.Deep.DeepCutAuto
import Derived.Deep.RegionHeld3
namespace Go.Proofs.YtphdeojiehigpaaGreatDoor
open Go Go.RowKit
set_option linter.unusedVariables false
set_option linter.unusedSimpArgs false

set_option maxRecDepth 100000 in
set_option maxHeartbeats 4000000 in
theorem costOf_any (r : ReqV) (h : ReqH) (a : Option Addr) (n c : Nat) (xs : List CarV) (w : World) (hr : RdReq w r h) (hs : r.small) (hg : ErrT w) (hx : RdC w a n xs) (hn : n ≤ 1048576) :
    Calls Tryz.prog 19 #[reqVal r h, .slice a n c] w fun e w' => e = .returned (.int .i64 (costR r xs)) ∧ Below w.heap.size w w' := by
  have htl : r.types.length ≤ 1048600 := by unfold ReqV.small at hs; omega
  have HR := hide hr
  have HX := hide hx
  have hxl := hx.1
  clear hr hx
  have HG := hide hg
  clear hg
  unfold reqVal
  go_enter Tryz.func19, Tryz.ntmps19
  go_wp2_with fail
  have BW : Hid (Below w.heap.size w (w.alloc (.cells #[.int .i64 r.way, .int .i64 r.pal.wd, .int .i64 r.pal.dp, .int .i64 r.pal.ht, .int .i64 r.pal.gram, .int .i64 r.classes, .slice h.ap r.pairs.length h.cp, .slice h.at' r.types.length h.ct, .int .i64 r.master, .slice h.ai r.items.length h.ci] 40))) := ((Below.refl _ _).alloc (by simp) _)
  have KaW : Hid (Blk (w.alloc (.cells #[.int .i64 r.way, .int .i64 r.pal.wd, .int .i64 r.pal.dp, .int .i64 r.pal.ht, .int .i64 r.pal.gram, .int .i64 r.classes, .slice h.ap r.pairs.length h.cp, .slice h.at' r.types.length h.ct, .int .i64 r.master, .slice h.ai r.items.length h.ci] 40)) w.heap.size [.int .i64 r.way, .int .i64 r.pal.wd, .int .i64 r.pal.dp, .int .i64 r.pal.ht, .int .i64 r.pal.gram, .int .i64 r.classes, .slice h.ap r.pairs.length h.cp, .slice h.at' r.types.length h.ct, .int .i64 r.master, .slice h.ai r.items.length h.ci]) := (Blk.allocAt (w := w) [.int .i64 r.way, .int .i64 r.pal.wd, .int .i64 r.pal.dp, .int .i64 r.pal.ht, .int .i64 r.pal.gram, .int .i64 r.classes, .slice h.ap r.pairs.length h.cp, .slice h.at' r.types.length h.ct, .int .i64 r.master, .slice h.ai r.items.length h.ci] (by simp))
  have ZaW : w.heap.size < (w.alloc (.cells #[.int .i64 r.way, .int .i64 r.pal.wd, .int .i64 r.pal.dp, .int .i64 r.pal.ht, .int .i64 r.pal.gram, .int .i64 r.classes, .slice h.ap r.pairs.length h.cp, .slice h.at' r.types.length h.ct, .int .i64 r.master, .slice h.ai r.items.length h.ci] 40)).heap.size := by simp
  have Ga : w.heap.size ≤ w.heap.size := by omega
  generalize (w.alloc (.cells #[.int .i64 r.way, .int .i64 r.pal.wd, .int .i64 r.pal.dp, .int .i64 r.pal.ht, .int .i64 r.pal.gram, .int .i64 r.classes, .slice h.ap r.pairs.length h.cp, .slice h.at' r.types.length h.ct, .int .i64 r.master, .slice h.ai r.items.length h.ci] 40)) = W at *
  refine (class_any r h _ ((unhide HR).mono (unhide BW)) hs ((unhide HG).later (unhide BW))).mono ?_
  rintro e v1 ⟨rfl, hb⟩
  have Bv1 := hide ((unhide BW).trans (hb.mono (unhide BW).size))
  have Kav1 := hide (Blk.below hb ZaW (unhide KaW))
  have Zav1 := Nat.lt_of_lt_of_le ZaW hb.size
  clear hb
  clear BW KaW ZaW
  by_cases hz : classI r = 0
  case neg =>
    have hne : (classI r != 0) = true := by simp [hz]
    have HE : Hid (costR r xs = 0) := by simp [Hid, costR, hz]
    clear hz
    go_wp2
    go_ret
    exact ⟨ret_intF (unhide HE).symm, unhide Bv1⟩
  have HCB := hide (fun ys => costTo_bd hz ys)
  have HQB := hide (fun m => byId_bd hz m)
  have HCR : Hid (costR r xs = costTo r xs) := by simp [Hid, costR, hz]
  rw [hz]
  clear hz
  go_wp2_with fail
  go_loopw [5, 15] (fun s i wr => ∃ (k : Nat) (t : Int), k ≤ n ∧ i = .int .i64 k ∧ s = .int .i64 t ∧ t = costTo r (xs.take k) ∧ Blk wr w.heap.size [.int .i64 r.way, .int .i64 r.pal.wd, .int .i64 r.pal.dp, .int .i64 r.pal.ht, .int .i64 r.pal.gram, .int .i64 r.classes, .slice h.ap r.pairs.length h.cp, .slice h.at' r.types.length h.ct, .int .i64 r.master, .slice h.ai r.items.length h.ci] ∧ w.heap.size < wr.heap.size ∧ Below w.heap.size w wr) (fun _ i _ => n - (intOf i).toNat)
  case atStart => exact ⟨0, 0, Nat.zero_le _, rfl, rfl, rfl, unhide Kav1, Zav1, unhide Bv1⟩
  case round =>
    obtain ⟨k, t, hk, rfl, rfl, ht, ka, Zawr, hb⟩ := hrel
    have Kawr := hide ka
    have HT := hide ht
    have Bwr := hide hb
    clear hb ka Kav1 Zav1 Bv1
    by_cases hlk : k < n
    case neg =>
      have HE : Hid (costR r xs = t) := by have h1 := unhide HT; rw [List.take_of_length_le (by omega)] at h1; rw [Hid, unhide HCR, h1]
      clear ht Kawr
      go_wp2
      go_ret
      exact ⟨ret_intF (unhide HE).symm, unhide Bwr⟩
    have htb := (unhide HCB) (xs.take k)
    rw [← ht] at htb
    have hkl : (xs.take k).length ≤ 1048576 := by rw [List.length_take]; omega
    have HST := hide (costTo_step r xs k (by omega))
    rw [← ht] at HST
    obtain ⟨b, off, ai, ci, hxa, hc0, hc1, hc2, hrow⟩ := ((unhide HX).mono (unhide Bwr)).2 k hlk
    subst hxa
    generalize xs.getD k default = q at hc0 hc1 hc2 hrow HST
    have hqb := (unhide HQB) q.ty
    clear ht hrow
    obtain ⟨ca0, ca1, ca2, ca3, ca4, ca5, ca6, ca7, ca8, ca9⟩ := Blk.cs10 (unhide Kawr)
    go_wp2_with fail
    clear hc0 hc1 hc2 ca0 ca1 ca2 ca3 ca4 ca5 ca6 ca7 ca8 ca9
    have Bv1 : Hid (Below w.heap.size w (wr.alloc (.cells #[.int .i64 q.ty, .int .i64 q.grp, .slice ai q.us.length ci] 42))) := (unhide Bwr).alloc (unhide Bwr).size _
    have Kxv1 : Hid (Blk (wr.alloc (.cells #[.int .i64 q.ty, .int .i64 q.grp, .slice ai q.us.length ci] 42)) wr.heap.size [.int .i64 q.ty, .int .i64 q.grp, .slice ai q.us.length ci]) := Blk.allocAt [.int .i64 q.ty, .int .i64 q.grp, .slice ai q.us.length ci] rfl
    have Zxv1 : wr.heap.size < (wr.alloc (.cells #[.int .i64 q.ty, .int .i64 q.grp, .slice ai q.us.length ci] 42)).heap.size := by simp
    have Gx : w.heap.size ≤ wr.heap.size := (unhide Bwr).size
    have Kav1 : Hid (Blk (wr.alloc (.cells #[.int .i64 q.ty, .int .i64 q.grp, .slice ai q.us.length ci] 42)) w.heap.size [.int .i64 r.way, .int .i64 r.pal.wd, .int .i64 r.pal.dp, .int .i64 r.pal.ht, .int .i64 r.pal.gram, .int .i64 r.classes, .slice h.ap r.pairs.length h.cp, .slice h.at' r.types.length h.ct, .int .i64 r.master, .slice h.ai r.items.length h.ci]) := (unhide Kawr).allocOld Zawr _
    have Zav1 : w.heap.size < (wr.alloc (.cells #[.int .i64 q.ty, .int .i64 q.grp, .slice ai q.us.length ci] 42)).heap.size := by simp <;> omega
    have Nqax : w.heap.size ≠ wr.heap.size := Nat.ne_of_lt Zawr
    have Nqxa : wr.heap.size ≠ w.heap.size := Ne.symm Nqax
    clear Bwr Kawr Zawr
    generalize (wr.alloc (.cells #[.int .i64 q.ty, .int .i64 q.grp, .slice ai q.us.length ci] 42)) = v1 at *
    refine (typeById_any r h q.ty _ ((unhide HR).mono (unhide Bv1)) htl).mono ?_
    rintro e v2 ⟨rfl, hb⟩
    have Bv2 := hide ((unhide Bv1).trans (hb.mono (unhide Bv1).size))
    have Kav2 := hide (Blk.below hb Zav1 (unhide Kav1))
    have Zav2 := Nat.lt_of_lt_of_le Zav1 hb.size
    have Kxv2 := hide (Blk.below hb Zxv1 (unhide Kxv1))
    have Zxv2 := Nat.lt_of_lt_of_le Zxv1 hb.size
    clear hb
    clear Bv1 Kav1 Zav1 Kxv1 Zxv1
    go_wp2_with fail
    go_roundw
    case rel => exact ⟨k + 1, _, by omega, by go_num, rfl, (unhide HST).symm, (unhide Kav2).allocOld Zav2 _, lt_alloc Zav2 _, bw_alloc (unhide Bv2) _⟩
    case measure => simp [intOf]; omega
end Go.Proofs.YtphdeojiehigpaaGreatDoor
