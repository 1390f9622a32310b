/- What a carton weighs in all: the program. -/
import Derived.Test.YtphdeojiehigpaaGreatDoorCarPlain
import Derived.Test.YtphdeojiehigpaaGreatDoorVolOf
import Derived.Test.YtphdeojiehigpaaGreatDoorPkF
import Derived.Test.YtphdeojiehigpaaGreatDoorLowPlain
import Derived.Test.YtphdeojiehigpaaGreatDoorAppendSome
import Derived.Test.YtphdeojiehigpaaGreatDoorInvR
import Derived.Deep.DeepMust
import Derived.Deep.DeepCutAuto
import Derived.Deep.RegionHeld3
namespace Go.Proofs.YtphdeojiehigpaaGreatDoor
open Go Go.RowKit
set_option linter.unusedVariables false
set_option linter.unusedSimpArgs false

set_option maxRecDepth 100000 in
set_option maxHeartbeats 4000000 in
theorem gross_any (r : ReqV) (h : ReqH) (t p : Int) (a : Option Addr) (n c : Nat) (us : List Int) (w : World) (hr : RdReq w r h) (hs : r.small) (hg : ErrT w) (hu : Rd w a n us) (hn : n ≤ 1048600) :
    Calls Tryz.prog 13 #[reqVal r h, .agg #[.int .i64 t, .int .i64 p, .slice a n c]] w fun e w' => e = .returned (.int .i64 (grossR r ⟨t, p, us⟩)) ∧ Below w.heap.size w w' := by
  have htl : r.types.length ≤ 1048600 := by unfold ReqV.small at hs; omega
  have HR := hide hr
  have HU := hide hu
  have HGB := hide (gramOf_bd (itemsR r) (itemsR_good r).gram us 1048600 (by rw [hu.1]; exact hn))
  clear hr hu
  have HG := hide hg
  clear hg
  unfold reqVal
  go_enter Tryz.func13, Tryz.ntmps13
  go_wp2_with fail
  have BW : Hid (Below w.heap.size w ((w.alloc (.cells #[.int .i64 r.way, .int .i64 r.pal.wd, .int .i64 r.pal.dp, .int .i64 r.pal.ht, .int .i64 r.pal.gram, .int .i64 r.classes, .slice h.ap r.pairs.length h.cp, .slice h.at' r.types.length h.ct, .int .i64 r.master, .slice h.ai r.items.length h.ci] 40)).alloc (.cells #[.int .i64 t, .int .i64 p, .slice a n c] 42))) := (((Below.refl _ _).alloc (by simp) _).alloc (by simp) _)
  have KaW : Hid (Blk ((w.alloc (.cells #[.int .i64 r.way, .int .i64 r.pal.wd, .int .i64 r.pal.dp, .int .i64 r.pal.ht, .int .i64 r.pal.gram, .int .i64 r.classes, .slice h.ap r.pairs.length h.cp, .slice h.at' r.types.length h.ct, .int .i64 r.master, .slice h.ai r.items.length h.ci] 40)).alloc (.cells #[.int .i64 t, .int .i64 p, .slice a n c] 42)) w.heap.size [.int .i64 r.way, .int .i64 r.pal.wd, .int .i64 r.pal.dp, .int .i64 r.pal.ht, .int .i64 r.pal.gram, .int .i64 r.classes, .slice h.ap r.pairs.length h.cp, .slice h.at' r.types.length h.ct, .int .i64 r.master, .slice h.ai r.items.length h.ci]) := ((Blk.allocAt (w := w) [.int .i64 r.way, .int .i64 r.pal.wd, .int .i64 r.pal.dp, .int .i64 r.pal.ht, .int .i64 r.pal.gram, .int .i64 r.classes, .slice h.ap r.pairs.length h.cp, .slice h.at' r.types.length h.ct, .int .i64 r.master, .slice h.ai r.items.length h.ci] (by simp)).allocOld (by simp) _)
  have ZaW : w.heap.size < ((w.alloc (.cells #[.int .i64 r.way, .int .i64 r.pal.wd, .int .i64 r.pal.dp, .int .i64 r.pal.ht, .int .i64 r.pal.gram, .int .i64 r.classes, .slice h.ap r.pairs.length h.cp, .slice h.at' r.types.length h.ct, .int .i64 r.master, .slice h.ai r.items.length h.ci] 40)).alloc (.cells #[.int .i64 t, .int .i64 p, .slice a n c] 42)).heap.size := by simp <;> omega
  have Ga : w.heap.size ≤ w.heap.size := by omega
  have KxW : Hid (Blk ((w.alloc (.cells #[.int .i64 r.way, .int .i64 r.pal.wd, .int .i64 r.pal.dp, .int .i64 r.pal.ht, .int .i64 r.pal.gram, .int .i64 r.classes, .slice h.ap r.pairs.length h.cp, .slice h.at' r.types.length h.ct, .int .i64 r.master, .slice h.ai r.items.length h.ci] 40)).alloc (.cells #[.int .i64 t, .int .i64 p, .slice a n c] 42)) (w.heap.size + 1) [.int .i64 t, .int .i64 p, .slice a n c]) := (Blk.allocAt (w := (w.alloc (.cells #[.int .i64 r.way, .int .i64 r.pal.wd, .int .i64 r.pal.dp, .int .i64 r.pal.ht, .int .i64 r.pal.gram, .int .i64 r.classes, .slice h.ap r.pairs.length h.cp, .slice h.at' r.types.length h.ct, .int .i64 r.master, .slice h.ai r.items.length h.ci] 40))) [.int .i64 t, .int .i64 p, .slice a n c] (by simp))
  have ZxW : (w.heap.size + 1) < ((w.alloc (.cells #[.int .i64 r.way, .int .i64 r.pal.wd, .int .i64 r.pal.dp, .int .i64 r.pal.ht, .int .i64 r.pal.gram, .int .i64 r.classes, .slice h.ap r.pairs.length h.cp, .slice h.at' r.types.length h.ct, .int .i64 r.master, .slice h.ai r.items.length h.ci] 40)).alloc (.cells #[.int .i64 t, .int .i64 p, .slice a n c] 42)).heap.size := by simp
  have Gx : w.heap.size ≤ (w.heap.size + 1) := by omega
  have Nqax : w.heap.size ≠ (w.heap.size + 1) := by omega
  have Nqxa : (w.heap.size + 1) ≠ w.heap.size := by omega
  generalize ((w.alloc (.cells #[.int .i64 r.way, .int .i64 r.pal.wd, .int .i64 r.pal.dp, .int .i64 r.pal.ht, .int .i64 r.pal.gram, .int .i64 r.classes, .slice h.ap r.pairs.length h.cp, .slice h.at' r.types.length h.ct, .int .i64 r.master, .slice h.ai r.items.length h.ci] 40)).alloc (.cells #[.int .i64 t, .int .i64 p, .slice a n c] 42)) = W at *
  refine (class_any r h _ ((unhide HR).mono (unhide BW)) hs ((unhide HG).later (unhide BW))).mono ?_
  rintro e v1 ⟨rfl, hb⟩
  have Bv1 := hide ((unhide BW).trans (hb.mono (unhide BW).size))
  have Kav1 := hide (Blk.below hb ZaW (unhide KaW))
  have Zav1 := Nat.lt_of_lt_of_le ZaW hb.size
  have Kxv1 := hide (Blk.below hb ZxW (unhide KxW))
  have Zxv1 := Nat.lt_of_lt_of_le ZxW hb.size
  clear hb
  clear BW KaW ZaW KxW ZxW
  by_cases hz : classI r = 0
  case neg =>
    have hne : (classI r != 0) = true := by simp [hz]
    have HE : Hid (grossR r ⟨t, p, us⟩ = 0) := by simp [Hid, grossR, hz]
    clear hz
    go_wp2
    go_ret
    exact ⟨ret_intF (unhide HE).symm, unhide Bv1⟩
  have HBD := hide (byId_bd hz t)
  have HGR : Hid (grossR r ⟨t, p, us⟩ = if byIdB r t = true then (byIdV r t).tare + gramOf (itemsR r) us else 0) := by simp [Hid, grossR, hz]
  rw [hz]
  clear hz
  obtain ⟨ca0, ca1, ca2, ca3, ca4, ca5, ca6, ca7, ca8, ca9⟩ := Blk.cs10 (unhide Kav1)
  have cx0 : v1.cell? ⟨(w.heap.size + 1), 0, none⟩ = some (.int .i64 t) := ((unhide Kxv1) 0 (by simp)).1
  have cx1 : v1.cell? ⟨(w.heap.size + 1), 1, none⟩ = some (.int .i64 p) := ((unhide Kxv1) 1 (by simp)).1
  have cx2 : v1.cell? ⟨(w.heap.size + 1), 2, none⟩ = some (.slice a n c) := ((unhide Kxv1) 2 (by simp)).1
  go_wp2_with fail
  refine (typeById_any r h t _ ((unhide HR).mono (unhide Bv1)) htl).mono ?_
  rintro e v2 ⟨rfl, hb⟩
  have Bv2 := hide ((unhide Bv1).trans (hb.mono (unhide Bv1).size))
  have Kav2 := hide (Blk.below hb Zav1 (unhide Kav1))
  have Zav2 := Nat.lt_of_lt_of_le Zav1 hb.size
  have Kxv2 := hide (Blk.below hb Zxv1 (unhide Kxv1))
  have Zxv2 := Nat.lt_of_lt_of_le Zxv1 hb.size
  clear hb
  clear Bv1 Kav1 Zav1 Kxv1 Zxv1
  clear ca0 ca1 ca2 ca3 ca4 ca5 ca6 ca7 ca8 ca9 cx0 cx1 cx2
  cases hb : byIdB r t
  case false =>
    have HE : Hid (grossR r ⟨t, p, us⟩ = 0) := by rw [Hid, unhide HGR, hb]; rfl
    go_wp2
    go_ret
    exact ⟨ret_intF (unhide HE).symm, bw_alloc (unhide Bv2) _⟩
  case true =>
    have HE : Hid (grossR r ⟨t, p, us⟩ = (byIdV r t).tare + gramOf (itemsR r) us) := by rw [Hid, unhide HGR, hb]; rfl
    go_upto_region 6 with fail
    have Bv3 : Hid (Below w.heap.size w (v2.alloc (.cells #[.int .i64 (byIdV r t).id, .int .i64 (byIdV r t).wd, .int .i64 (byIdV r t).ht, .int .i64 (byIdV r t).dp, .int .i64 (byIdV r t).tare, .int .i64 (byIdV r t).gram, .int .i64 (byIdV r t).cost] 55))) := (unhide Bv2).alloc (unhide Bv2).size _
    have Ktv3 : Hid (Blk (v2.alloc (.cells #[.int .i64 (byIdV r t).id, .int .i64 (byIdV r t).wd, .int .i64 (byIdV r t).ht, .int .i64 (byIdV r t).dp, .int .i64 (byIdV r t).tare, .int .i64 (byIdV r t).gram, .int .i64 (byIdV r t).cost] 55)) v2.heap.size [.int .i64 (byIdV r t).id, .int .i64 (byIdV r t).wd, .int .i64 (byIdV r t).ht, .int .i64 (byIdV r t).dp, .int .i64 (byIdV r t).tare, .int .i64 (byIdV r t).gram, .int .i64 (byIdV r t).cost]) := Blk.allocAt [.int .i64 (byIdV r t).id, .int .i64 (byIdV r t).wd, .int .i64 (byIdV r t).ht, .int .i64 (byIdV r t).dp, .int .i64 (byIdV r t).tare, .int .i64 (byIdV r t).gram, .int .i64 (byIdV r t).cost] rfl
    have Ztv3 : v2.heap.size < (v2.alloc (.cells #[.int .i64 (byIdV r t).id, .int .i64 (byIdV r t).wd, .int .i64 (byIdV r t).ht, .int .i64 (byIdV r t).dp, .int .i64 (byIdV r t).tare, .int .i64 (byIdV r t).gram, .int .i64 (byIdV r t).cost] 55)).heap.size := by simp
    have Gt : w.heap.size ≤ v2.heap.size := (unhide Bv2).size
    have Kav3 : Hid (Blk (v2.alloc (.cells #[.int .i64 (byIdV r t).id, .int .i64 (byIdV r t).wd, .int .i64 (byIdV r t).ht, .int .i64 (byIdV r t).dp, .int .i64 (byIdV r t).tare, .int .i64 (byIdV r t).gram, .int .i64 (byIdV r t).cost] 55)) w.heap.size [.int .i64 r.way, .int .i64 r.pal.wd, .int .i64 r.pal.dp, .int .i64 r.pal.ht, .int .i64 r.pal.gram, .int .i64 r.classes, .slice h.ap r.pairs.length h.cp, .slice h.at' r.types.length h.ct, .int .i64 r.master, .slice h.ai r.items.length h.ci]) := (unhide Kav2).allocOld Zav2 _
    have Zav3 : w.heap.size < (v2.alloc (.cells #[.int .i64 (byIdV r t).id, .int .i64 (byIdV r t).wd, .int .i64 (byIdV r t).ht, .int .i64 (byIdV r t).dp, .int .i64 (byIdV r t).tare, .int .i64 (byIdV r t).gram, .int .i64 (byIdV r t).cost] 55)).heap.size := by simp <;> omega
    have Nqat : w.heap.size ≠ v2.heap.size := Nat.ne_of_lt Zav2
    have Nqta : v2.heap.size ≠ w.heap.size := Ne.symm Nqat
    have Kxv3 : Hid (Blk (v2.alloc (.cells #[.int .i64 (byIdV r t).id, .int .i64 (byIdV r t).wd, .int .i64 (byIdV r t).ht, .int .i64 (byIdV r t).dp, .int .i64 (byIdV r t).tare, .int .i64 (byIdV r t).gram, .int .i64 (byIdV r t).cost] 55)) (w.heap.size + 1) [.int .i64 t, .int .i64 p, .slice a n c]) := (unhide Kxv2).allocOld Zxv2 _
    have Zxv3 : (w.heap.size + 1) < (v2.alloc (.cells #[.int .i64 (byIdV r t).id, .int .i64 (byIdV r t).wd, .int .i64 (byIdV r t).ht, .int .i64 (byIdV r t).dp, .int .i64 (byIdV r t).tare, .int .i64 (byIdV r t).gram, .int .i64 (byIdV r t).cost] 55)).heap.size := by simp <;> omega
    have Nqxt : (w.heap.size + 1) ≠ v2.heap.size := Nat.ne_of_lt Zxv2
    have Nqtx : v2.heap.size ≠ (w.heap.size + 1) := Ne.symm Nqxt
    clear Bv2 Kav2 Zav2 Kxv2 Zxv2
    generalize (v2.alloc (.cells #[.int .i64 (byIdV r t).id, .int .i64 (byIdV r t).wd, .int .i64 (byIdV r t).ht, .int .i64 (byIdV r t).dp, .int .i64 (byIdV r t).tare, .int .i64 (byIdV r t).gram, .int .i64 (byIdV r t).cost] 55)) = v3 at *
    go_cut [4] (fun v wc => v = .int .i64 ((byIdV r t).tare + gramOf (itemsR r) us) ∧ Below w.heap.size w wc)
    case first =>
      refine wp_region_noPanic ?_
      have Bu0 : Hid (Below w.heap.size w v3.drew) := (unhide Bv3).drew
      have Kau0 : Hid (Blk v3.drew w.heap.size [.int .i64 r.way, .int .i64 r.pal.wd, .int .i64 r.pal.dp, .int .i64 r.pal.ht, .int .i64 r.pal.gram, .int .i64 r.classes, .slice h.ap r.pairs.length h.cp, .slice h.at' r.types.length h.ct, .int .i64 r.master, .slice h.ai r.items.length h.ci]) := unhide Kav3
      have Zau0 : w.heap.size < v3.drew.heap.size := Zav3
      have Kxu0 : Hid (Blk v3.drew (w.heap.size + 1) [.int .i64 t, .int .i64 p, .slice a n c]) := unhide Kxv3
      have Zxu0 : (w.heap.size + 1) < v3.drew.heap.size := Zxv3
      have Ktu0 : Hid (Blk v3.drew v2.heap.size [.int .i64 (byIdV r t).id, .int .i64 (byIdV r t).wd, .int .i64 (byIdV r t).ht, .int .i64 (byIdV r t).dp, .int .i64 (byIdV r t).tare, .int .i64 (byIdV r t).gram, .int .i64 (byIdV r t).cost]) := unhide Ktv3
      have Ztu0 : v2.heap.size < v3.drew.heap.size := Ztv3
      obtain ⟨S, hSdef⟩ : ∃ S : World → Prop, S = (fun w' => w'.cell? ⟨w.heap.size, 0, none⟩ = some (.int .i64 r.way) ∧ w'.cell? ⟨w.heap.size, 1, none⟩ = some (.int .i64 r.pal.wd) ∧ w'.cell? ⟨w.heap.size, 2, none⟩ = some (.int .i64 r.pal.dp) ∧ w'.cell? ⟨w.heap.size, 3, none⟩ = some (.int .i64 r.pal.ht) ∧ w'.cell? ⟨w.heap.size, 4, none⟩ = some (.int .i64 r.pal.gram) ∧ w'.cell? ⟨w.heap.size, 5, none⟩ = some (.int .i64 r.classes) ∧ w'.cell? ⟨w.heap.size, 6, none⟩ = some (.slice h.ap r.pairs.length h.cp) ∧ w'.cell? ⟨w.heap.size, 7, none⟩ = some (.slice h.at' r.types.length h.ct) ∧ w'.cell? ⟨w.heap.size, 8, none⟩ = some (.int .i64 r.master) ∧ w'.cell? ⟨w.heap.size, 9, none⟩ = some (.slice h.ai r.items.length h.ci) ∧ w'.cell? ⟨(w.heap.size + 1), 2, none⟩ = some (.slice a n c) ∧ w'.cell? ⟨v2.heap.size, 4, none⟩ = some (.int .i64 (byIdV r t).tare)) := ⟨_, rfl⟩
      have hSmk : ∀ wq, Blk wq w.heap.size [.int .i64 r.way, .int .i64 r.pal.wd, .int .i64 r.pal.dp, .int .i64 r.pal.ht, .int .i64 r.pal.gram, .int .i64 r.classes, .slice h.ap r.pairs.length h.cp, .slice h.at' r.types.length h.ct, .int .i64 r.master, .slice h.ai r.items.length h.ci] → Blk wq (w.heap.size + 1) [.int .i64 t, .int .i64 p, .slice a n c] → Blk wq v2.heap.size [.int .i64 (byIdV r t).id, .int .i64 (byIdV r t).wd, .int .i64 (byIdV r t).ht, .int .i64 (byIdV r t).dp, .int .i64 (byIdV r t).tare, .int .i64 (byIdV r t).gram, .int .i64 (byIdV r t).cost] → S wq := fun wq ka kx kt => by rw [hSdef]; exact ⟨(ka 0 (by simp)).1, (ka 1 (by simp)).1, (ka 2 (by simp)).1, (ka 3 (by simp)).1, (ka 4 (by simp)).1, (ka 5 (by simp)).1, (ka 6 (by simp)).1, (ka 7 (by simp)).1, (ka 8 (by simp)).1, (ka 9 (by simp)).1, (kx 2 (by simp)).1, (kt 4 (by simp)).1⟩
      have hSd : ∀ wq, S wq → (fun w' => w'.cell? ⟨w.heap.size, 0, none⟩ = some (.int .i64 r.way) ∧ w'.cell? ⟨w.heap.size, 1, none⟩ = some (.int .i64 r.pal.wd) ∧ w'.cell? ⟨w.heap.size, 2, none⟩ = some (.int .i64 r.pal.dp) ∧ w'.cell? ⟨w.heap.size, 3, none⟩ = some (.int .i64 r.pal.ht) ∧ w'.cell? ⟨w.heap.size, 4, none⟩ = some (.int .i64 r.pal.gram) ∧ w'.cell? ⟨w.heap.size, 5, none⟩ = some (.int .i64 r.classes) ∧ w'.cell? ⟨w.heap.size, 6, none⟩ = some (.slice h.ap r.pairs.length h.cp) ∧ w'.cell? ⟨w.heap.size, 7, none⟩ = some (.slice h.at' r.types.length h.ct) ∧ w'.cell? ⟨w.heap.size, 8, none⟩ = some (.int .i64 r.master) ∧ w'.cell? ⟨w.heap.size, 9, none⟩ = some (.slice h.ai r.items.length h.ci) ∧ w'.cell? ⟨(w.heap.size + 1), 2, none⟩ = some (.slice a n c) ∧ w'.cell? ⟨v2.heap.size, 4, none⟩ = some (.int .i64 (byIdV r t).tare)) wq := fun wq h => by rw [hSdef] at h; exact h
      clear hSdef
      have hHeld : S v3.drew := hSmk v3.drew (unhide Kau0) (unhide Kxu0) (unhide Ktu0)
      refine wp_region_to (S := S) (T := []) (by kernel_rfl) hHeld (fun _ => ?_)
      generalize v3.drew = u0 at *
      refine wpTo_tk (i := 0) (v := ?_) rfl (by kernel_rfl) (Or.inl ⟨by rfl, ?_⟩) (by assumption) ?_
      rotate_left
      · intro w hSw
        have hSw := hSd _ hSw
        (try dsimp only at hSw)
        go_simp <;> with_reducible rfl
      refine wpTo_tk (i := 1) (v := ?_) rfl (by kernel_rfl) (Or.inl ⟨by rfl, ?_⟩) (by assumption) ?_
      rotate_left
      · intro w hSw
        have hSw := hSd _ hSw
        (try dsimp only at hSw)
        go_simp <;> with_reducible rfl
      refine wpTo_tk (i := 2) (v := ?_) rfl (by kernel_rfl) (Or.inl ⟨by rfl, ?_⟩) (by assumption) ?_
      rotate_left
      · intro w hSw
        have hSw := hSd _ hSw
        (try dsimp only at hSw)
        go_simp <;> with_reducible rfl
      refine wpTo_tk (i := 3) (v := ?_) rfl (by kernel_rfl) (Or.inl ⟨by rfl, ?_⟩) (by assumption) ?_
      rotate_left
      · intro w hSw
        have hSw := hSd _ hSw
        (try dsimp only at hSw)
        go_simp <;> with_reducible rfl
      refine wpTo_tk (i := 4) (v := ?_) rfl (by kernel_rfl) (Or.inl ⟨by rfl, ?_⟩) (by assumption) ?_
      rotate_left
      · intro w hSw
        have hSw := hSd _ hSw
        (try dsimp only at hSw)
        go_simp <;> with_reducible rfl
      try simp only [Act.put, List.getElem_toArray, List.getElem_cons_zero, List.getElem_cons_succ, List.setIfInBounds_toArray, List.set_cons_zero, List.set_cons_succ]
      refine wpTo_inv (fun a0 listed ai wi => ∃ (b5 b6 b7 : Bool), listed = #[true, true, true, true, true, b5, b6, b7] ∧ ai = fillS b7 4 (.int .i64 ((byIdV r t).tare + gramOf (itemsR r) us)) (fillS b6 25 (.int .i64 ((byIdV r t).tare + gramOf (itemsR r) us)) (fillS b5 24 (.int .i64 (gramOf (itemsR r) us)) (a0))) ∧ Hid (Below u0.heap.size u0 wi) ∧ Hid (Tk b6 → Tk b5) ∧ Hid (Tk b7 → Tk b5 ∧ Tk b6)) ⟨false, false, false, rfl, by simp only [fillS_false], (Below.refl _ _), (fun h => by cases h), (fun h => by cases h)⟩ ?hS ?hT ?step ?fin _ (by decide)
      case hS =>
        rintro listed ai wi ⟨b5, b6, b7, rfl, ha, FB, FC6, FC7⟩ hTf
        exact hSmk wi (Blk.below ((unhide FB)) Zau0 (unhide Kau0)) (Blk.below ((unhide FB)) Zxu0 (unhide Kxu0)) (Blk.below ((unhide FB)) Ztu0 (unhide Ktu0))
      case hT =>
        exact fun _ _ _ _ f hf => by cases hf
      case step =>
        rintro listed ai wi i o ⟨b5, b6, b7, rfl, ha, FB, FC6, FC7⟩ ho hl hall
        have hi : i < 8 := (Array.getElem?_eq_some_iff.1 ho).1
        obtain rfl | rfl | rfl | rfl | rfl | rfl | rfl | rfl : i = 0 ∨ i = 1 ∨ i = 2 ∨ i = 3 ∨ i = 4 ∨ i = 5 ∨ i = 6 ∨ i = 7 := by omega
        · exact absurd hl (by simp)
        · exact absurd hl (by simp)
        · exact absurd hl (by simp)
        · exact absurd hl (by simp)
        · exact absurd hl (by simp)
        · obtain rfl := Option.some.inj ho
          obtain rfl : b5 = false := by simpa using hl
          obtain rfl : b6 = false := Tk_no (fun p => by have h8 := (unhide FC6) p; simp [Tk] at h8)
          obtain rfl : b7 = false := Tk_no (fun p => by have h8 := (unhide FC7) p; simp [Tk] at h8)
          clear ho hl hall hi
          simp only [fillS, pickS_true, pickS_false, Act.put, Array.getD_eq_getD_getElem?, List.getElem?_toArray, List.getElem?_cons_zero, List.getElem?_cons_succ, Option.getD_some, List.getElem_toArray, List.getElem_cons_zero, List.getElem_cons_succ, List.setIfInBounds_toArray, List.set_cons_zero, List.set_cons_succ] at ha
          subst ha
          refine wpOp_stepS (o := _) rfl (fun K hK => ?_)
          go_simp
          refine (gramOf_any r h _ _ _ us wi ((unhide HR).mono ((unhide Bu0).trans ((unhide FB).mono (unhide Bu0).size))) hs ((unhide HG).later ((unhide Bu0).trans ((unhide FB).mono (unhide Bu0).size))) ((unhide HU).mono ((unhide Bu0).trans ((unhide FB).mono (unhide Bu0).size))) hn).mono ?_
          rintro e wz ⟨rfl, hb⟩
          go_wp2_with fail
          refine hK.out _ _ ?_
          exact ⟨true, false, false, rfl, by simp only [fillS, pickS_true, pickS_false, Act.put, Array.getD_eq_getD_getElem?, List.getElem?_toArray, List.getElem?_cons_zero, List.getElem?_cons_succ, Option.getD_some, List.getElem_toArray, List.getElem_cons_zero, List.getElem_cons_succ, List.setIfInBounds_toArray, List.set_cons_zero, List.set_cons_succ], (((unhide FB).trans (hb.mono (unhide FB).size))), (fun p6 => (by cases p6)), (fun p7 => (by cases p7))⟩
        · obtain rfl := Option.some.inj ho
          obtain rfl : b6 = false := by simpa using hl
          obtain rfl : b5 = true := by simpa using hall ⟨5, .data⟩ (by simp) rfl
          obtain rfl : b7 = false := Tk_no (fun p => by have h8 := (unhide FC7) p; simp [Tk] at h8)
          clear ho hl hall hi
          simp only [fillS, pickS_true, pickS_false, Act.put, Array.getD_eq_getD_getElem?, List.getElem?_toArray, List.getElem?_cons_zero, List.getElem?_cons_succ, Option.getD_some, List.getElem_toArray, List.getElem_cons_zero, List.getElem_cons_succ, List.setIfInBounds_toArray, List.set_cons_zero, List.set_cons_succ] at ha
          subst ha
          refine wpOp_stepS (o := _) rfl (fun K hK => ?_)
          go_simp
          rw [wrap_fits (by have := unhide HGB; have := unhide HBD; omega) (by have := unhide HGB; have := unhide HBD; omega)]
          refine hK.out _ _ ?_
          exact ⟨true, true, false, rfl, by simp only [fillS, pickS_true, pickS_false, Act.put, Array.getD_eq_getD_getElem?, List.getElem?_toArray, List.getElem?_cons_zero, List.getElem?_cons_succ, Option.getD_some, List.getElem_toArray, List.getElem_cons_zero, List.getElem_cons_succ, List.setIfInBounds_toArray, List.set_cons_zero, List.set_cons_succ], ((unhide FB)), (fun p6 => rfl), (fun p7 => (by cases p7))⟩
        · obtain rfl := Option.some.inj ho
          obtain rfl : b7 = false := by simpa using hl
          obtain rfl : b6 = true := by simpa using hall ⟨6, .data⟩ (by simp) rfl
          obtain rfl := (unhide FC6) rfl
          clear ho hl hall hi
          simp only [fillS, pickS_true, pickS_false, Act.put, Array.getD_eq_getD_getElem?, List.getElem?_toArray, List.getElem?_cons_zero, List.getElem?_cons_succ, Option.getD_some, List.getElem_toArray, List.getElem_cons_zero, List.getElem_cons_succ, List.setIfInBounds_toArray, List.set_cons_zero, List.set_cons_succ] at ha
          subst ha
          refine wpOp_stepS (o := _) rfl (fun K hK => ?_)
          go_simp
          refine hK.out _ _ ?_
          exact ⟨true, true, true, rfl, by simp only [fillS, pickS_true, pickS_false, Act.put, Array.getD_eq_getD_getElem?, List.getElem?_toArray, List.getElem?_cons_zero, List.getElem?_cons_succ, Option.getD_some, List.getElem_toArray, List.getElem_cons_zero, List.getElem_cons_succ, List.setIfInBounds_toArray, List.set_cons_zero, List.set_cons_succ], ((unhide FB)), (fun p6 => (unhide FC6 p6)), (fun p7 => ⟨rfl, rfl⟩)⟩
      case fin =>
        rintro listed ai wi ⟨b5, b6, b7, rfl, ha, FB, FC6, FC7⟩ hall
        obtain rfl : b5 = true := by
          have h9 := hall 5 _ rfl (by
            intro e he hbd
            simp at he
            rcases he with rfl | rfl <;> simp
            )
          simpa using h9
        obtain rfl : b6 = true := by
          have h9 := hall 6 _ rfl (by
            intro e he hbd
            simp at he
            rcases he with rfl | rfl <;> simp
            )
          simpa using h9
        obtain rfl : b7 = true := by
          have h9 := hall 7 _ rfl (by
            intro e he hbd
            simp at he
            rcases he with rfl | rfl | rfl | rfl | rfl | rfl | rfl | rfl | rfl <;> simp
            )
          simpa using h9
        clear hall
        simp only [fillS, pickS_true, pickS_false, Act.put, Array.getD_eq_getD_getElem?, List.getElem?_toArray, List.getElem?_cons_zero, List.getElem?_cons_succ, Option.getD_some, List.getElem_toArray, List.getElem_cons_zero, List.getElem_cons_succ, List.setIfInBounds_toArray, List.set_cons_zero, List.set_cons_succ] at ha
        subst ha
        refine NoPanic.normal ?_
        have Bwi := hide ((unhide Bu0).trans ((unhide FB).mono (unhide Bu0).size))
        have Kawi := hide (Blk.below (unhide FB) Zau0 (unhide Kau0))
        have Zawi := Nat.lt_of_lt_of_le Zau0 (unhide FB).size
        have Kxwi := hide (Blk.below (unhide FB) Zxu0 (unhide Kxu0))
        have Zxwi := Nat.lt_of_lt_of_le Zxu0 (unhide FB).size
        have Ktwi := hide (Blk.below (unhide FB) Ztu0 (unhide Ktu0))
        have Ztwi := Nat.lt_of_lt_of_le Ztu0 (unhide FB).size
        clear FB FC6 FC7
        go_wp2_with fail
        go_meet
        case rel => exact ⟨rfl, unhide Bwi⟩
    case rest =>
      obtain ⟨rfl, hb⟩ := hcut
      have HB := hide hb
      clear hb
      go_wp2
      go_ret
      exact ⟨ret_intF (unhide HE).symm, unhide HB⟩
end Go.Proofs.YtphdeojiehigpaaGreatDoor
