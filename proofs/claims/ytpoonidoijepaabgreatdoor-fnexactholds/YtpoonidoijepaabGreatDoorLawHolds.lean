/- The law of Holds, walked. -/
import Derived.Test.YtpoonidoijepaabGreatDoorHoldsSpec
import Derived.Test.YtpoonidoijepaabGreatDoorHoldsImpl
import Derived.Test.YtpoonidoijepaabGreatDoorPkA
import Derived.Test.YtpoonidoijepaabGreatDoorPkE
import Derived.Deep.DeepMust
import Derived.Deep.DeepCutAuto
namespace Go.Proofs.YtpoonidoijepaabGreatDoor
open Go.RowKit
set_option linter.unusedVariables false
set_option linter.unusedSimpArgs false
set_option maxRecDepth 100000 in
set_option maxHeartbeats 4000000 in
theorem law_holds (r : ReqV) (h : ReqH) (a : Option Addr) (n c : Nat) (us : List Int) (t : TypeV) (w : World) (hr : RdReq w r h) (hp : r.pairs.length ≤ maxLen) (ht : r.types.length ≤ maxLen) (hi : r.items.length ≤ maxLen) (hg : ErrT w) (hu : Rd w a n us) (hm : n ≤ maxLen) :
    Calls Tryz.prog 3 #[reqVal r h, .slice a n c, .agg #[.int .i64 t.id, .int .i64 t.wd, .int .i64 t.ht, .int .i64 t.dp, .int .i64 t.tare, .int .i64 t.gram, .int .i64 t.cost]] w fun e w' => e = .returned (.bool true) ∧ Below w.heap.size w w' := by
  have hne : (holdsR r us t != holdsR r us t) = false := by simp
  by_cases hn6 : n ≤ 1048576
  case neg =>
    have hgt : (1048576 : Int) < (n : Int) := by omega
    unfold maxLen at hm
    unfold reqVal
    go_enter Tryz.func3, Tryz.ntmps3
    go_wp2_with fail
    go_ret
    exact ⟨rfl, ((Below.refl _ _).alloc (Nat.le_refl _) _).alloc (by simp) _⟩
  have hgt : ¬ (1048576 : Int) < (n : Int) := by omega
  have hn7 : n ≤ 1048600 := by omega
  by_cases hs : (1048576 : Int) - r.pairs.length - r.types.length - r.items.length < 0
  · unfold reqVal
    go_enter Tryz.func3, Tryz.ntmps3
    go_wp2_with fail
    refine (szRequest_any r h _ _ (by omega) (by omega) hp ht hi).mono ?_
    rintro e w1 ⟨rfl, hb1⟩
    rw [if_pos (by omega)]
    have H1 : Hid (Below w.heap.size w w1) := (((Below.refl w.heap.size w).alloc (Nat.le_refl _) _).alloc (by simp) _).trans (hb1.mono (by simp; omega))
    clear hb1
    go_wp2_with fail
    go_ret
    exact ⟨rfl, unhide H1⟩
  have hsm : r.small := by unfold ReqV.small; omega
  have htl : r.types.length ≤ 1048600 := by unfold ReqV.small at hsm; omega
  unfold reqVal
  go_enter Tryz.func3, Tryz.ntmps3
  go_wp2_with fail
  have BwA : Hid (Below w.heap.size w ((w.alloc (.cells #[.int .i64 r.way, .int .i64 r.pal.wd, .int .i64 r.pal.dp, .int .i64 r.pal.ht, .int .i64 r.pal.gram, .int .i64 r.classes, .slice h.ap r.pairs.length h.cp, .slice h.at' r.types.length h.ct, .int .i64 r.master, .slice h.ai r.items.length h.ci] 28)).alloc (.cells #[.int .i64 t.id, .int .i64 t.wd, .int .i64 t.ht, .int .i64 t.dp, .int .i64 t.tare, .int .i64 t.gram, .int .i64 t.cost] 31))) := (((Below.refl _ _).alloc (by simp) _).alloc (by simp) _)
  have KawA : Hid (Blk ((w.alloc (.cells #[.int .i64 r.way, .int .i64 r.pal.wd, .int .i64 r.pal.dp, .int .i64 r.pal.ht, .int .i64 r.pal.gram, .int .i64 r.classes, .slice h.ap r.pairs.length h.cp, .slice h.at' r.types.length h.ct, .int .i64 r.master, .slice h.ai r.items.length h.ci] 28)).alloc (.cells #[.int .i64 t.id, .int .i64 t.wd, .int .i64 t.ht, .int .i64 t.dp, .int .i64 t.tare, .int .i64 t.gram, .int .i64 t.cost] 31)) w.heap.size [.int .i64 r.way, .int .i64 r.pal.wd, .int .i64 r.pal.dp, .int .i64 r.pal.ht, .int .i64 r.pal.gram, .int .i64 r.classes, .slice h.ap r.pairs.length h.cp, .slice h.at' r.types.length h.ct, .int .i64 r.master, .slice h.ai r.items.length h.ci]) := ((Blk.allocAt (w := w) [.int .i64 r.way, .int .i64 r.pal.wd, .int .i64 r.pal.dp, .int .i64 r.pal.ht, .int .i64 r.pal.gram, .int .i64 r.classes, .slice h.ap r.pairs.length h.cp, .slice h.at' r.types.length h.ct, .int .i64 r.master, .slice h.ai r.items.length h.ci] (by simp)).allocOld (by simp) _)
  have ZawA : w.heap.size < ((w.alloc (.cells #[.int .i64 r.way, .int .i64 r.pal.wd, .int .i64 r.pal.dp, .int .i64 r.pal.ht, .int .i64 r.pal.gram, .int .i64 r.classes, .slice h.ap r.pairs.length h.cp, .slice h.at' r.types.length h.ct, .int .i64 r.master, .slice h.ai r.items.length h.ci] 28)).alloc (.cells #[.int .i64 t.id, .int .i64 t.wd, .int .i64 t.ht, .int .i64 t.dp, .int .i64 t.tare, .int .i64 t.gram, .int .i64 t.cost] 31)).heap.size := by simp <;> omega
  have Ga : w.heap.size ≤ w.heap.size := by omega
  have KtwA : Hid (Blk ((w.alloc (.cells #[.int .i64 r.way, .int .i64 r.pal.wd, .int .i64 r.pal.dp, .int .i64 r.pal.ht, .int .i64 r.pal.gram, .int .i64 r.classes, .slice h.ap r.pairs.length h.cp, .slice h.at' r.types.length h.ct, .int .i64 r.master, .slice h.ai r.items.length h.ci] 28)).alloc (.cells #[.int .i64 t.id, .int .i64 t.wd, .int .i64 t.ht, .int .i64 t.dp, .int .i64 t.tare, .int .i64 t.gram, .int .i64 t.cost] 31)) (w.heap.size + 1) [.int .i64 t.id, .int .i64 t.wd, .int .i64 t.ht, .int .i64 t.dp, .int .i64 t.tare, .int .i64 t.gram, .int .i64 t.cost]) := (Blk.allocAt (w := (w.alloc (.cells #[.int .i64 r.way, .int .i64 r.pal.wd, .int .i64 r.pal.dp, .int .i64 r.pal.ht, .int .i64 r.pal.gram, .int .i64 r.classes, .slice h.ap r.pairs.length h.cp, .slice h.at' r.types.length h.ct, .int .i64 r.master, .slice h.ai r.items.length h.ci] 28))) [.int .i64 t.id, .int .i64 t.wd, .int .i64 t.ht, .int .i64 t.dp, .int .i64 t.tare, .int .i64 t.gram, .int .i64 t.cost] (by simp))
  have ZtwA : (w.heap.size + 1) < ((w.alloc (.cells #[.int .i64 r.way, .int .i64 r.pal.wd, .int .i64 r.pal.dp, .int .i64 r.pal.ht, .int .i64 r.pal.gram, .int .i64 r.classes, .slice h.ap r.pairs.length h.cp, .slice h.at' r.types.length h.ct, .int .i64 r.master, .slice h.ai r.items.length h.ci] 28)).alloc (.cells #[.int .i64 t.id, .int .i64 t.wd, .int .i64 t.ht, .int .i64 t.dp, .int .i64 t.tare, .int .i64 t.gram, .int .i64 t.cost] 31)).heap.size := by simp
  have Gt : w.heap.size ≤ (w.heap.size + 1) := by omega
  have Nqat : w.heap.size ≠ (w.heap.size + 1) := by omega
  have Nqta : (w.heap.size + 1) ≠ w.heap.size := by omega
  generalize ((w.alloc (.cells #[.int .i64 r.way, .int .i64 r.pal.wd, .int .i64 r.pal.dp, .int .i64 r.pal.ht, .int .i64 r.pal.gram, .int .i64 r.classes, .slice h.ap r.pairs.length h.cp, .slice h.at' r.types.length h.ct, .int .i64 r.master, .slice h.ai r.items.length h.ci] 28)).alloc (.cells #[.int .i64 t.id, .int .i64 t.wd, .int .i64 t.ht, .int .i64 t.dp, .int .i64 t.tare, .int .i64 t.gram, .int .i64 t.cost] 31)) = wA at *
  have QrwA : Hid (RdReq wA r h) := hr.mono (unhide BwA)
  have QgwA : Hid (ErrT wA) := hg.later (unhide BwA)
  have QywA : Hid (Rd wA (a) n us) := hu.mono (unhide BwA)
  clear hr hg hu
  refine (szRequest_any r h _ _ (by omega) (by omega) hp ht hi).mono ?_
  rintro e v1 ⟨rfl, hb⟩
  have Bv1 := hide ((unhide BwA).trans (hb.mono (unhide BwA).size))
  have Kav1 := hide (Blk.below hb ZawA (unhide KawA))
  have Zav1 := Nat.lt_of_lt_of_le ZawA hb.size
  have Ktv1 := hide (Blk.below hb ZtwA (unhide KtwA))
  have Ztv1 := Nat.lt_of_lt_of_le ZtwA hb.size
  have Qrv1 : Hid (RdReq v1 r h) := (unhide QrwA).mono hb
  have Qgv1 : Hid (ErrT v1) := (unhide QgwA).later hb
  have Qyv1 : Hid (Rd v1 (a) n us) := Rd.mono (unhide QywA) hb
  clear hb
  clear BwA KawA ZawA KtwA ZtwA QrwA QgwA QywA
  rw [if_neg (by omega)]
  go_upto_region 7 with fail
  go_cut [8] (fun v wc => v = .bool (holdsR r us t) ∧ Blk wc w.heap.size [.int .i64 r.way, .int .i64 r.pal.wd, .int .i64 r.pal.dp, .int .i64 r.pal.ht, .int .i64 r.pal.gram, .int .i64 r.classes, .slice h.ap r.pairs.length h.cp, .slice h.at' r.types.length h.ct, .int .i64 r.master, .slice h.ai r.items.length h.ci] ∧ w.heap.size < wc.heap.size ∧ Blk wc (w.heap.size + 1) [.int .i64 t.id, .int .i64 t.wd, .int .i64 t.ht, .int .i64 t.dp, .int .i64 t.tare, .int .i64 t.gram, .int .i64 t.cost] ∧ (w.heap.size + 1) < wc.heap.size ∧ RdReq wc r h ∧ ErrT wc ∧ Rd wc (a) n us ∧ Below w.heap.size w wc)
  case first =>
    refine wp_region_noPanic ?_
    have Bu0 : Hid (Below w.heap.size w v1.drew) := (unhide Bv1).drew
    have Qru0 : Hid (RdReq v1.drew r h) := (unhide Qrv1).mono (Below.refl _ _).drew
    have Qgu0 : Hid (ErrT v1.drew) := (unhide Qgv1).later (Below.refl _ _).drew
    have Qyu0 : Hid (Rd v1.drew (a) n us) := Rd.mono (unhide Qyv1) (Below.refl _ _).drew
    have Kau0 : Hid (Blk v1.drew w.heap.size [.int .i64 r.way, .int .i64 r.pal.wd, .int .i64 r.pal.dp, .int .i64 r.pal.ht, .int .i64 r.pal.gram, .int .i64 r.classes, .slice h.ap r.pairs.length h.cp, .slice h.at' r.types.length h.ct, .int .i64 r.master, .slice h.ai r.items.length h.ci]) := unhide Kav1
    have Zau0 : w.heap.size < v1.drew.heap.size := Zav1
    have Ktu0 : Hid (Blk v1.drew (w.heap.size + 1) [.int .i64 t.id, .int .i64 t.wd, .int .i64 t.ht, .int .i64 t.dp, .int .i64 t.tare, .int .i64 t.gram, .int .i64 t.cost]) := unhide Ktv1
    have Ztu0 : (w.heap.size + 1) < v1.drew.heap.size := Ztv1
    obtain ⟨S, hSdef⟩ : ∃ S : World → Prop, S = (fun w' => w'.cell? ⟨w.heap.size, 0, none⟩ = some (.int .i64 r.way) ∧ w'.cell? ⟨w.heap.size, 1, none⟩ = some (.int .i64 r.pal.wd) ∧ w'.cell? ⟨w.heap.size, 2, none⟩ = some (.int .i64 r.pal.dp) ∧ w'.cell? ⟨w.heap.size, 3, none⟩ = some (.int .i64 r.pal.ht) ∧ w'.cell? ⟨w.heap.size, 4, none⟩ = some (.int .i64 r.pal.gram) ∧ w'.cell? ⟨w.heap.size, 5, none⟩ = some (.int .i64 r.classes) ∧ w'.cell? ⟨w.heap.size, 6, none⟩ = some (.slice h.ap r.pairs.length h.cp) ∧ w'.cell? ⟨w.heap.size, 7, none⟩ = some (.slice h.at' r.types.length h.ct) ∧ w'.cell? ⟨w.heap.size, 8, none⟩ = some (.int .i64 r.master) ∧ w'.cell? ⟨w.heap.size, 9, none⟩ = some (.slice h.ai r.items.length h.ci) ∧ w'.cell? ⟨(w.heap.size + 1), 0, none⟩ = some (.int .i64 t.id) ∧ w'.cell? ⟨(w.heap.size + 1), 1, none⟩ = some (.int .i64 t.wd) ∧ w'.cell? ⟨(w.heap.size + 1), 2, none⟩ = some (.int .i64 t.ht) ∧ w'.cell? ⟨(w.heap.size + 1), 3, none⟩ = some (.int .i64 t.dp) ∧ w'.cell? ⟨(w.heap.size + 1), 4, none⟩ = some (.int .i64 t.tare) ∧ w'.cell? ⟨(w.heap.size + 1), 5, none⟩ = some (.int .i64 t.gram) ∧ w'.cell? ⟨(w.heap.size + 1), 6, none⟩ = some (.int .i64 t.cost)) := ⟨_, rfl⟩
    have hSmk : ∀ wq, Blk wq w.heap.size [.int .i64 r.way, .int .i64 r.pal.wd, .int .i64 r.pal.dp, .int .i64 r.pal.ht, .int .i64 r.pal.gram, .int .i64 r.classes, .slice h.ap r.pairs.length h.cp, .slice h.at' r.types.length h.ct, .int .i64 r.master, .slice h.ai r.items.length h.ci] → Blk wq (w.heap.size + 1) [.int .i64 t.id, .int .i64 t.wd, .int .i64 t.ht, .int .i64 t.dp, .int .i64 t.tare, .int .i64 t.gram, .int .i64 t.cost] → S wq := fun wq ka kt => by rw [hSdef]; exact ⟨(ka 0 (by simp)).1, (ka 1 (by simp)).1, (ka 2 (by simp)).1, (ka 3 (by simp)).1, (ka 4 (by simp)).1, (ka 5 (by simp)).1, (ka 6 (by simp)).1, (ka 7 (by simp)).1, (ka 8 (by simp)).1, (ka 9 (by simp)).1, (kt 0 (by simp)).1, (kt 1 (by simp)).1, (kt 2 (by simp)).1, (kt 3 (by simp)).1, (kt 4 (by simp)).1, (kt 5 (by simp)).1, (kt 6 (by simp)).1⟩
    have hSd : ∀ wq, S wq → (fun w' => w'.cell? ⟨w.heap.size, 0, none⟩ = some (.int .i64 r.way) ∧ w'.cell? ⟨w.heap.size, 1, none⟩ = some (.int .i64 r.pal.wd) ∧ w'.cell? ⟨w.heap.size, 2, none⟩ = some (.int .i64 r.pal.dp) ∧ w'.cell? ⟨w.heap.size, 3, none⟩ = some (.int .i64 r.pal.ht) ∧ w'.cell? ⟨w.heap.size, 4, none⟩ = some (.int .i64 r.pal.gram) ∧ w'.cell? ⟨w.heap.size, 5, none⟩ = some (.int .i64 r.classes) ∧ w'.cell? ⟨w.heap.size, 6, none⟩ = some (.slice h.ap r.pairs.length h.cp) ∧ w'.cell? ⟨w.heap.size, 7, none⟩ = some (.slice h.at' r.types.length h.ct) ∧ w'.cell? ⟨w.heap.size, 8, none⟩ = some (.int .i64 r.master) ∧ w'.cell? ⟨w.heap.size, 9, none⟩ = some (.slice h.ai r.items.length h.ci) ∧ w'.cell? ⟨(w.heap.size + 1), 0, none⟩ = some (.int .i64 t.id) ∧ w'.cell? ⟨(w.heap.size + 1), 1, none⟩ = some (.int .i64 t.wd) ∧ w'.cell? ⟨(w.heap.size + 1), 2, none⟩ = some (.int .i64 t.ht) ∧ w'.cell? ⟨(w.heap.size + 1), 3, none⟩ = some (.int .i64 t.dp) ∧ w'.cell? ⟨(w.heap.size + 1), 4, none⟩ = some (.int .i64 t.tare) ∧ w'.cell? ⟨(w.heap.size + 1), 5, none⟩ = some (.int .i64 t.gram) ∧ w'.cell? ⟨(w.heap.size + 1), 6, none⟩ = some (.int .i64 t.cost)) wq := fun wq h => by rw [hSdef] at h; exact h
    clear hSdef
    have hHeld : S v1.drew := hSmk v1.drew (unhide Kau0) (unhide Ktu0)
    refine wp_region_to (S := S) (T := []) (by kernel_rfl) hHeld (fun _ => ?_)
    generalize v1.drew = u0 at *
    refine wpTo_take (i := 0) (v := ?_) rfl (by kernel_rfl) (by kernel_rfl) (by kernel_rfl) (by kernel_rfl) (by kernel_rfl) (fun _ _ _ h => h) (Or.inl ⟨by rfl, ?_⟩) (by assumption) ?_
    rotate_left
    · intro w hSw
      have hSw := hSd _ hSw
      (try dsimp only at hSw)
      go_simp <;> with_reducible rfl
    try simp only [Act.put, List.getElem_toArray, List.getElem_cons_zero, List.getElem_cons_succ, List.setIfInBounds_toArray, List.set_cons_zero, List.set_cons_succ]
    refine wpTo_take (i := 2) (v := ?_) rfl (by kernel_rfl) (by kernel_rfl) (by kernel_rfl) (by kernel_rfl) (by kernel_rfl) (fun _ _ _ h => h) (Or.inl ⟨by rfl, ?_⟩) (by assumption) ?_
    rotate_left
    · intro w hSw
      have hSw := hSd _ hSw
      (try dsimp only at hSw)
      go_simp <;> with_reducible rfl
    try simp only [Act.put, List.getElem_toArray, List.getElem_cons_zero, List.getElem_cons_succ, List.setIfInBounds_toArray, List.set_cons_zero, List.set_cons_succ]
    refine wpTo_take (i := 4) (v := ?_) rfl (by kernel_rfl) (by kernel_rfl) (by kernel_rfl) (by kernel_rfl) (by kernel_rfl) (fun _ _ _ h => h) (Or.inl ⟨by rfl, ?_⟩) (by assumption) ?_
    rotate_left
    · intro w hSw
      have hSw := hSd _ hSw
      (try dsimp only at hSw)
      go_simp <;> with_reducible rfl
    try simp only [Act.put, List.getElem_toArray, List.getElem_cons_zero, List.getElem_cons_succ, List.setIfInBounds_toArray, List.set_cons_zero, List.set_cons_succ]
    refine wpTo_ready (rs := [1]) (by kernel_rfl) (by simp) ?_
    refine AllTo.cons (o := _) rfl (fun K hK => ?_) ?_
    ·
     (try simp only [List.getElem_toArray, List.getElem_cons_zero, List.getElem_cons_succ])
     go_simp
     refine (toRequest_any r h u0 (unhide Qru0) hsm).mono ?_
     rintro e u2 ⟨h1, rfl, hq, hf, hb⟩
     have Bu2 := hide ((unhide Bu0).trans (hb.mono (unhide Bu0).size))
     have Kau2 := hide (Blk.below hb Zau0 (unhide Kau0))
     have Zau2 := Nat.lt_of_lt_of_le Zau0 hb.size
     have Ktu2 := hide (Blk.below hb Ztu0 (unhide Ktu0))
     have Ztu2 := Nat.lt_of_lt_of_le Ztu0 hb.size
     have Qru2 : Hid (RdReq u2 r h) := (unhide Qru0).mono hb
     have Qgu2 : Hid (ErrT u2) := (unhide Qgu0).later hb
     have Qyu2 : Hid (Rd u2 (a) n us) := Rd.mono (unhide Qyu0) hb
     have Qcu2 : Hid (RdReq u2 r h1) := hq
     clear hq hf
     clear hb
     clear Bu0 Kau0 Zau0 Ktu0 Ztu0 Qru0 Qgu0 Qyu0
     clear hHeld
     go_wp2_with fail
     have hHeld := hSmk u2 (unhide Kau2) (unhide Ktu2)
     refine hK.out _ _ (fun _ => hHeld) ?_
     clear hK K
     try simp only [Act.put, List.getElem_toArray, List.getElem_cons_zero, List.getElem_cons_succ, List.setIfInBounds_toArray, List.set_cons_zero, List.set_cons_succ]
     refine wpTo_ready (rs := [3]) (by kernel_rfl) (by simp) ?_
     refine AllTo.cons (o := _) rfl (fun K hK => ?_) ?_
     ·
      (try simp only [List.getElem_toArray, List.getElem_cons_zero, List.getElem_cons_succ])
      go_simp
      refine (toIntS_any a n c us u2 (unhide Qyu2) hn6).mono ?_
      rintro e u3 ⟨rfl, ho, hb⟩
      have Bu3 := hide ((unhide Bu2).trans (hb.mono (unhide Bu2).size))
      have Kau3 := hide (Blk.below hb Zau2 (unhide Kau2))
      have Zau3 := Nat.lt_of_lt_of_le Zau2 hb.size
      have Ktu3 := hide (Blk.below hb Ztu2 (unhide Ktu2))
      have Ztu3 := Nat.lt_of_lt_of_le Ztu2 hb.size
      have Qru3 : Hid (RdReq u3 r h) := (unhide Qru2).mono hb
      have Qgu3 : Hid (ErrT u3) := (unhide Qgu2).later hb
      have Qyu3 : Hid (Rd u3 (a) n us) := Rd.mono (unhide Qyu2) hb
      have Qcu3 : Hid (RdReq u3 r h1) := (unhide Qcu2).mono hb
      have Qsu3 : Hid (Rd u3 (some ⟨u2.heap.size, 0, none⟩) n us) := Rd.of_owns ho
      clear ho
      clear hb
      clear Bu2 Kau2 Zau2 Ktu2 Ztu2 Qru2 Qgu2 Qyu2 Qcu2
      clear hHeld
      go_wp2_with fail
      have hHeld := hSmk u3 (unhide Kau3) (unhide Ktu3)
      refine hK.out _ _ (fun _ => hHeld) ?_
      clear hK K
      try simp only [Act.put, List.getElem_toArray, List.getElem_cons_zero, List.getElem_cons_succ, List.setIfInBounds_toArray, List.set_cons_zero, List.set_cons_succ]
      refine wpTo_ready (rs := [5]) (by kernel_rfl) (by simp) ?_
      refine AllTo.cons (o := _) rfl (fun K hK => ?_) ?_
      ·
       (try simp only [List.getElem_toArray, List.getElem_cons_zero, List.getElem_cons_succ])
       go_simp
       refine (toType_any _ _ _ _ _ _ _ _).mono ?_
       rintro e u4 ⟨rfl, hb⟩
       have Bu4 := hide ((unhide Bu3).trans (hb.mono (unhide Bu3).size))
       have Kau4 := hide (Blk.below hb Zau3 (unhide Kau3))
       have Zau4 := Nat.lt_of_lt_of_le Zau3 hb.size
       have Ktu4 := hide (Blk.below hb Ztu3 (unhide Ktu3))
       have Ztu4 := Nat.lt_of_lt_of_le Ztu3 hb.size
       have Qru4 : Hid (RdReq u4 r h) := (unhide Qru3).mono hb
       have Qgu4 : Hid (ErrT u4) := (unhide Qgu3).later hb
       have Qyu4 : Hid (Rd u4 (a) n us) := Rd.mono (unhide Qyu3) hb
       have Qcu4 : Hid (RdReq u4 r h1) := (unhide Qcu3).mono hb
       have Qsu4 : Hid (Rd u4 (some ⟨u2.heap.size, 0, none⟩) n us) := Rd.mono (unhide Qsu3) hb
       clear hb
       clear Bu3 Kau3 Zau3 Ktu3 Ztu3 Qru3 Qgu3 Qyu3 Qcu3 Qsu3
       clear hHeld
       go_wp2_with fail
       have hHeld := hSmk u4 (unhide Kau4) (unhide Ktu4)
       refine hK.out _ _ (fun _ => hHeld) ?_
       clear hK K
       try simp only [Act.put, List.getElem_toArray, List.getElem_cons_zero, List.getElem_cons_succ, List.setIfInBounds_toArray, List.set_cons_zero, List.set_cons_succ]
       refine wpTo_ready (rs := [6]) (by kernel_rfl) (by simp) ?_
       refine AllTo.cons (o := _) rfl (fun K hK => ?_) ?_
       ·
        (try simp only [List.getElem_toArray, List.getElem_cons_zero, List.getElem_cons_succ])
        go_simp
        refine (specHolds_any r h1 _ n n us t u4 (unhide Qcu4) hsm (unhide Qsu4) hn7).mono ?_
        rintro e u5 ⟨rfl, hb⟩
        have Bu5 := hide ((unhide Bu4).trans (hb.mono (unhide Bu4).size))
        have Kau5 := hide (Blk.below hb Zau4 (unhide Kau4))
        have Zau5 := Nat.lt_of_lt_of_le Zau4 hb.size
        have Ktu5 := hide (Blk.below hb Ztu4 (unhide Ktu4))
        have Ztu5 := Nat.lt_of_lt_of_le Ztu4 hb.size
        have Qru5 : Hid (RdReq u5 r h) := (unhide Qru4).mono hb
        have Qgu5 : Hid (ErrT u5) := (unhide Qgu4).later hb
        have Qyu5 : Hid (Rd u5 (a) n us) := Rd.mono (unhide Qyu4) hb
        have Qcu5 : Hid (RdReq u5 r h1) := (unhide Qcu4).mono hb
        have Qsu5 : Hid (Rd u5 (some ⟨u2.heap.size, 0, none⟩) n us) := Rd.mono (unhide Qsu4) hb
        clear hb
        clear Bu4 Kau4 Zau4 Ktu4 Ztu4 Qru4 Qgu4 Qyu4 Qcu4 Qsu4
        clear hHeld
        go_wp2_with fail
        have hHeld := hSmk u5 (unhide Kau5) (unhide Ktu5)
        refine hK.out _ _ (fun _ => hHeld) ?_
        clear hK K
        try simp only [Act.put, List.getElem_toArray, List.getElem_cons_zero, List.getElem_cons_succ, List.setIfInBounds_toArray, List.set_cons_zero, List.set_cons_succ]
        refine wpTo_take (i := 7) (v := ?_) rfl (by kernel_rfl) (by kernel_rfl) (by kernel_rfl) (by kernel_rfl) (by kernel_rfl) (fun _ _ _ h => h) (Or.inl ⟨by rfl, ?_⟩) (by assumption) ?_
        rotate_left
        · intro w hSw
          have hSw := hSd _ hSw
          (try dsimp only at hSw)
          go_simp <;> with_reducible rfl
        try simp only [Act.put, List.getElem_toArray, List.getElem_cons_zero, List.getElem_cons_succ, List.setIfInBounds_toArray, List.set_cons_zero, List.set_cons_succ]
        refine wpTo_done (by kernel_rfl) ?_ _
        refine NoPanic.normal ?_
        go_wp2_with fail
        go_meet
        case rel => exact ⟨rfl, unhide Kau5, Zau5, unhide Ktu5, Ztu5, unhide Qru5, unhide Qgu5, unhide Qyu5, unhide Bu5⟩
       exact AllTo.nil
      exact AllTo.nil
     exact AllTo.nil
    exact AllTo.nil
  case rest =>
    clear Bv1 Kav1 Zav1 Ktv1 Ztv1 Qrv1 Qgv1 Qyv1
    obtain ⟨rfl, ka, za, kt, zt, qr, qg, qy, hb⟩ := hcut
    obtain ⟨wB, hw8⟩ : ∃ w8 : World, w8 = wc := ⟨_, rfl⟩
    subst wc
    have BwB := hide hb
    have KawB := hide ka
    have ZawB : w.heap.size < wB.heap.size := za
    have KtwB := hide kt
    have ZtwB : (w.heap.size + 1) < wB.heap.size := zt
    have QrwB : Hid (RdReq wB r h) := qr
    have QgwB : Hid (ErrT wB) := qg
    have QywB : Hid (Rd wB (a) n us) := qy
    clear hb ka za kt zt qr qg qy
    have ca0 : wB.cell? ⟨w.heap.size, 0, none⟩ = some (.int .i64 r.way) := ((unhide KawB) 0 (by simp)).1
    have ca1 : wB.cell? ⟨w.heap.size, 1, none⟩ = some (.int .i64 r.pal.wd) := ((unhide KawB) 1 (by simp)).1
    have ca2 : wB.cell? ⟨w.heap.size, 2, none⟩ = some (.int .i64 r.pal.dp) := ((unhide KawB) 2 (by simp)).1
    have ca3 : wB.cell? ⟨w.heap.size, 3, none⟩ = some (.int .i64 r.pal.ht) := ((unhide KawB) 3 (by simp)).1
    have ca4 : wB.cell? ⟨w.heap.size, 4, none⟩ = some (.int .i64 r.pal.gram) := ((unhide KawB) 4 (by simp)).1
    have ca5 : wB.cell? ⟨w.heap.size, 5, none⟩ = some (.int .i64 r.classes) := ((unhide KawB) 5 (by simp)).1
    have ca6 : wB.cell? ⟨w.heap.size, 6, none⟩ = some (.slice h.ap r.pairs.length h.cp) := ((unhide KawB) 6 (by simp)).1
    have ca7 : wB.cell? ⟨w.heap.size, 7, none⟩ = some (.slice h.at' r.types.length h.ct) := ((unhide KawB) 7 (by simp)).1
    have ca8 : wB.cell? ⟨w.heap.size, 8, none⟩ = some (.int .i64 r.master) := ((unhide KawB) 8 (by simp)).1
    have ca9 : wB.cell? ⟨w.heap.size, 9, none⟩ = some (.slice h.ai r.items.length h.ci) := ((unhide KawB) 9 (by simp)).1
    go_wp2_with fail
    refine (toRequest_any r h _ (unhide QrwB) hsm).mono ?_
    rintro e v2 ⟨h2, rfl, hq, hf, hb⟩
    have Bv2 := hide ((unhide BwB).trans (hb.mono (unhide BwB).size))
    have Kav2 := hide (Blk.below hb ZawB (unhide KawB))
    have Zav2 := Nat.lt_of_lt_of_le ZawB hb.size
    have Ktv2 := hide (Blk.below hb ZtwB (unhide KtwB))
    have Ztv2 := Nat.lt_of_lt_of_le ZtwB hb.size
    have Qrv2 : Hid (RdReq v2 r h) := (unhide QrwB).mono hb
    have Qgv2 : Hid (ErrT v2) := (unhide QgwB).later hb
    have Qyv2 : Hid (Rd v2 (a) n us) := Rd.mono (unhide QywB) hb
    clear hb
    clear BwB KawB ZawB KtwB ZtwB QrwB QgwB QywB
    have Qdv2 : Hid (RdReq v2 r h2) := hq
    clear hq hf ca0 ca1 ca2 ca3 ca4 ca5 ca6 ca7 ca8 ca9
    unfold reqVal
    go_wp2_with fail
    have Bv3 : Hid (Below w.heap.size w (v2.alloc (.cells #[.int .i64 r.way, .int .i64 r.pal.wd, .int .i64 r.pal.dp, .int .i64 r.pal.ht, .int .i64 r.pal.gram, .int .i64 r.classes, .slice h2.ap r.pairs.length h2.cp, .slice h2.at' r.types.length h2.ct, .int .i64 r.master, .slice h2.ai r.items.length h2.ci] 39))) := (unhide Bv2).alloc (unhide Bv2).size _
    have Kxv3 : Hid (Blk (v2.alloc (.cells #[.int .i64 r.way, .int .i64 r.pal.wd, .int .i64 r.pal.dp, .int .i64 r.pal.ht, .int .i64 r.pal.gram, .int .i64 r.classes, .slice h2.ap r.pairs.length h2.cp, .slice h2.at' r.types.length h2.ct, .int .i64 r.master, .slice h2.ai r.items.length h2.ci] 39)) v2.heap.size [.int .i64 r.way, .int .i64 r.pal.wd, .int .i64 r.pal.dp, .int .i64 r.pal.ht, .int .i64 r.pal.gram, .int .i64 r.classes, .slice h2.ap r.pairs.length h2.cp, .slice h2.at' r.types.length h2.ct, .int .i64 r.master, .slice h2.ai r.items.length h2.ci]) := Blk.allocAt [.int .i64 r.way, .int .i64 r.pal.wd, .int .i64 r.pal.dp, .int .i64 r.pal.ht, .int .i64 r.pal.gram, .int .i64 r.classes, .slice h2.ap r.pairs.length h2.cp, .slice h2.at' r.types.length h2.ct, .int .i64 r.master, .slice h2.ai r.items.length h2.ci] rfl
    have Zxv3 : v2.heap.size < (v2.alloc (.cells #[.int .i64 r.way, .int .i64 r.pal.wd, .int .i64 r.pal.dp, .int .i64 r.pal.ht, .int .i64 r.pal.gram, .int .i64 r.classes, .slice h2.ap r.pairs.length h2.cp, .slice h2.at' r.types.length h2.ct, .int .i64 r.master, .slice h2.ai r.items.length h2.ci] 39)).heap.size := by simp
    have Gx : w.heap.size ≤ v2.heap.size := (unhide Bv2).size
    have Kav3 : Hid (Blk (v2.alloc (.cells #[.int .i64 r.way, .int .i64 r.pal.wd, .int .i64 r.pal.dp, .int .i64 r.pal.ht, .int .i64 r.pal.gram, .int .i64 r.classes, .slice h2.ap r.pairs.length h2.cp, .slice h2.at' r.types.length h2.ct, .int .i64 r.master, .slice h2.ai r.items.length h2.ci] 39)) w.heap.size [.int .i64 r.way, .int .i64 r.pal.wd, .int .i64 r.pal.dp, .int .i64 r.pal.ht, .int .i64 r.pal.gram, .int .i64 r.classes, .slice h.ap r.pairs.length h.cp, .slice h.at' r.types.length h.ct, .int .i64 r.master, .slice h.ai r.items.length h.ci]) := (unhide Kav2).allocOld Zav2 _
    have Zav3 : w.heap.size < (v2.alloc (.cells #[.int .i64 r.way, .int .i64 r.pal.wd, .int .i64 r.pal.dp, .int .i64 r.pal.ht, .int .i64 r.pal.gram, .int .i64 r.classes, .slice h2.ap r.pairs.length h2.cp, .slice h2.at' r.types.length h2.ct, .int .i64 r.master, .slice h2.ai r.items.length h2.ci] 39)).heap.size := by simp <;> omega
    have Nqax : w.heap.size ≠ v2.heap.size := Nat.ne_of_lt Zav2
    have Nqxa : v2.heap.size ≠ w.heap.size := Ne.symm Nqax
    have Ktv3 : Hid (Blk (v2.alloc (.cells #[.int .i64 r.way, .int .i64 r.pal.wd, .int .i64 r.pal.dp, .int .i64 r.pal.ht, .int .i64 r.pal.gram, .int .i64 r.classes, .slice h2.ap r.pairs.length h2.cp, .slice h2.at' r.types.length h2.ct, .int .i64 r.master, .slice h2.ai r.items.length h2.ci] 39)) (w.heap.size + 1) [.int .i64 t.id, .int .i64 t.wd, .int .i64 t.ht, .int .i64 t.dp, .int .i64 t.tare, .int .i64 t.gram, .int .i64 t.cost]) := (unhide Ktv2).allocOld Ztv2 _
    have Ztv3 : (w.heap.size + 1) < (v2.alloc (.cells #[.int .i64 r.way, .int .i64 r.pal.wd, .int .i64 r.pal.dp, .int .i64 r.pal.ht, .int .i64 r.pal.gram, .int .i64 r.classes, .slice h2.ap r.pairs.length h2.cp, .slice h2.at' r.types.length h2.ct, .int .i64 r.master, .slice h2.ai r.items.length h2.ci] 39)).heap.size := by simp <;> omega
    have Nqtx : (w.heap.size + 1) ≠ v2.heap.size := Nat.ne_of_lt Ztv2
    have Nqxt : v2.heap.size ≠ (w.heap.size + 1) := Ne.symm Nqtx
    have Qrv3 : Hid (RdReq (v2.alloc (.cells #[.int .i64 r.way, .int .i64 r.pal.wd, .int .i64 r.pal.dp, .int .i64 r.pal.ht, .int .i64 r.pal.gram, .int .i64 r.classes, .slice h2.ap r.pairs.length h2.cp, .slice h2.at' r.types.length h2.ct, .int .i64 r.master, .slice h2.ai r.items.length h2.ci] 39)) r h) := (unhide Qrv2).mono ((Below.refl _ _).alloc (Nat.le_refl _) _)
    have Qgv3 : Hid (ErrT (v2.alloc (.cells #[.int .i64 r.way, .int .i64 r.pal.wd, .int .i64 r.pal.dp, .int .i64 r.pal.ht, .int .i64 r.pal.gram, .int .i64 r.classes, .slice h2.ap r.pairs.length h2.cp, .slice h2.at' r.types.length h2.ct, .int .i64 r.master, .slice h2.ai r.items.length h2.ci] 39))) := (unhide Qgv2).later ((Below.refl _ _).alloc (Nat.le_refl _) _)
    have Qyv3 : Hid (Rd (v2.alloc (.cells #[.int .i64 r.way, .int .i64 r.pal.wd, .int .i64 r.pal.dp, .int .i64 r.pal.ht, .int .i64 r.pal.gram, .int .i64 r.classes, .slice h2.ap r.pairs.length h2.cp, .slice h2.at' r.types.length h2.ct, .int .i64 r.master, .slice h2.ai r.items.length h2.ci] 39)) (a) n us) := Rd.mono (unhide Qyv2) ((Below.refl _ _).alloc (Nat.le_refl _) _)
    have Qdv3 : Hid (RdReq (v2.alloc (.cells #[.int .i64 r.way, .int .i64 r.pal.wd, .int .i64 r.pal.dp, .int .i64 r.pal.ht, .int .i64 r.pal.gram, .int .i64 r.classes, .slice h2.ap r.pairs.length h2.cp, .slice h2.at' r.types.length h2.ct, .int .i64 r.master, .slice h2.ai r.items.length h2.ci] 39)) r h2) := (unhide Qdv2).mono ((Below.refl _ _).alloc (Nat.le_refl _) _)
    clear Bv2 Kav2 Zav2 Ktv2 Ztv2 Qrv2 Qgv2 Qyv2 Qdv2
    generalize (v2.alloc (.cells #[.int .i64 r.way, .int .i64 r.pal.wd, .int .i64 r.pal.dp, .int .i64 r.pal.ht, .int .i64 r.pal.gram, .int .i64 r.classes, .slice h2.ap r.pairs.length h2.cp, .slice h2.at' r.types.length h2.ct, .int .i64 r.master, .slice h2.ai r.items.length h2.ci] 39)) = v3 at *
    refine (toIntS_any a n c us _ (unhide Qyv3) hn6).mono ?_
    rintro e v4 ⟨rfl, ho, hb⟩
    have Bv4 := hide ((unhide Bv3).trans (hb.mono (unhide Bv3).size))
    have Kav4 := hide (Blk.below hb Zav3 (unhide Kav3))
    have Zav4 := Nat.lt_of_lt_of_le Zav3 hb.size
    have Ktv4 := hide (Blk.below hb Ztv3 (unhide Ktv3))
    have Ztv4 := Nat.lt_of_lt_of_le Ztv3 hb.size
    have Kxv4 := hide (Blk.below hb Zxv3 (unhide Kxv3))
    have Zxv4 := Nat.lt_of_lt_of_le Zxv3 hb.size
    have Qrv4 : Hid (RdReq v4 r h) := (unhide Qrv3).mono hb
    have Qgv4 : Hid (ErrT v4) := (unhide Qgv3).later hb
    have Qyv4 : Hid (Rd v4 (a) n us) := Rd.mono (unhide Qyv3) hb
    have Qdv4 : Hid (RdReq v4 r h2) := (unhide Qdv3).mono hb
    clear hb
    clear Bv3 Kav3 Zav3 Ktv3 Ztv3 Kxv3 Zxv3 Qrv3 Qgv3 Qyv3 Qdv3
    have Qvv4 : Hid (Rd v4 (some ⟨v3.heap.size, 0, none⟩) n us) := Rd.of_owns ho
    clear ho
    go_upto_region 10 with fail
    go_cut [11] (fun v wc => v = .bool (holdsR r us t) ∧ Blk wc w.heap.size [.int .i64 r.way, .int .i64 r.pal.wd, .int .i64 r.pal.dp, .int .i64 r.pal.ht, .int .i64 r.pal.gram, .int .i64 r.classes, .slice h.ap r.pairs.length h.cp, .slice h.at' r.types.length h.ct, .int .i64 r.master, .slice h.ai r.items.length h.ci] ∧ w.heap.size < wc.heap.size ∧ Blk wc (w.heap.size + 1) [.int .i64 t.id, .int .i64 t.wd, .int .i64 t.ht, .int .i64 t.dp, .int .i64 t.tare, .int .i64 t.gram, .int .i64 t.cost] ∧ (w.heap.size + 1) < wc.heap.size ∧ Blk wc v2.heap.size [.int .i64 r.way, .int .i64 r.pal.wd, .int .i64 r.pal.dp, .int .i64 r.pal.ht, .int .i64 r.pal.gram, .int .i64 r.classes, .slice h2.ap r.pairs.length h2.cp, .slice h2.at' r.types.length h2.ct, .int .i64 r.master, .slice h2.ai r.items.length h2.ci] ∧ v2.heap.size < wc.heap.size ∧ RdReq wc r h ∧ ErrT wc ∧ Rd wc (a) n us ∧ RdReq wc r h2 ∧ Rd wc (some ⟨v3.heap.size, 0, none⟩) n us ∧ Below w.heap.size w wc)
    case first =>
      refine wp_region_noPanic ?_
      have Bu0 : Hid (Below w.heap.size w v4.drew) := (unhide Bv4).drew
      have Qru0 : Hid (RdReq v4.drew r h) := (unhide Qrv4).mono (Below.refl _ _).drew
      have Qgu0 : Hid (ErrT v4.drew) := (unhide Qgv4).later (Below.refl _ _).drew
      have Qyu0 : Hid (Rd v4.drew (a) n us) := Rd.mono (unhide Qyv4) (Below.refl _ _).drew
      have Qdu0 : Hid (RdReq v4.drew r h2) := (unhide Qdv4).mono (Below.refl _ _).drew
      have Qvu0 : Hid (Rd v4.drew (some ⟨v3.heap.size, 0, none⟩) n us) := Rd.mono (unhide Qvv4) (Below.refl _ _).drew
      have Kau0 : Hid (Blk v4.drew w.heap.size [.int .i64 r.way, .int .i64 r.pal.wd, .int .i64 r.pal.dp, .int .i64 r.pal.ht, .int .i64 r.pal.gram, .int .i64 r.classes, .slice h.ap r.pairs.length h.cp, .slice h.at' r.types.length h.ct, .int .i64 r.master, .slice h.ai r.items.length h.ci]) := unhide Kav4
      have Zau0 : w.heap.size < v4.drew.heap.size := Zav4
      have Ktu0 : Hid (Blk v4.drew (w.heap.size + 1) [.int .i64 t.id, .int .i64 t.wd, .int .i64 t.ht, .int .i64 t.dp, .int .i64 t.tare, .int .i64 t.gram, .int .i64 t.cost]) := unhide Ktv4
      have Ztu0 : (w.heap.size + 1) < v4.drew.heap.size := Ztv4
      have Kxu0 : Hid (Blk v4.drew v2.heap.size [.int .i64 r.way, .int .i64 r.pal.wd, .int .i64 r.pal.dp, .int .i64 r.pal.ht, .int .i64 r.pal.gram, .int .i64 r.classes, .slice h2.ap r.pairs.length h2.cp, .slice h2.at' r.types.length h2.ct, .int .i64 r.master, .slice h2.ai r.items.length h2.ci]) := unhide Kxv4
      have Zxu0 : v2.heap.size < v4.drew.heap.size := Zxv4
      obtain ⟨S, hSdef⟩ : ∃ S : World → Prop, S = (fun w' => w'.cell? ⟨v2.heap.size, 0, none⟩ = some (.int .i64 r.way) ∧ w'.cell? ⟨v2.heap.size, 1, none⟩ = some (.int .i64 r.pal.wd) ∧ w'.cell? ⟨v2.heap.size, 2, none⟩ = some (.int .i64 r.pal.dp) ∧ w'.cell? ⟨v2.heap.size, 3, none⟩ = some (.int .i64 r.pal.ht) ∧ w'.cell? ⟨v2.heap.size, 4, none⟩ = some (.int .i64 r.pal.gram) ∧ w'.cell? ⟨v2.heap.size, 5, none⟩ = some (.int .i64 r.classes) ∧ w'.cell? ⟨v2.heap.size, 6, none⟩ = some (.slice h2.ap r.pairs.length h2.cp) ∧ w'.cell? ⟨v2.heap.size, 7, none⟩ = some (.slice h2.at' r.types.length h2.ct) ∧ w'.cell? ⟨v2.heap.size, 8, none⟩ = some (.int .i64 r.master) ∧ w'.cell? ⟨v2.heap.size, 9, none⟩ = some (.slice h2.ai r.items.length h2.ci) ∧ w'.cell? ⟨(w.heap.size + 1), 0, none⟩ = some (.int .i64 t.id) ∧ w'.cell? ⟨(w.heap.size + 1), 1, none⟩ = some (.int .i64 t.wd) ∧ w'.cell? ⟨(w.heap.size + 1), 2, none⟩ = some (.int .i64 t.ht) ∧ w'.cell? ⟨(w.heap.size + 1), 3, none⟩ = some (.int .i64 t.dp) ∧ w'.cell? ⟨(w.heap.size + 1), 4, none⟩ = some (.int .i64 t.tare) ∧ w'.cell? ⟨(w.heap.size + 1), 5, none⟩ = some (.int .i64 t.gram) ∧ w'.cell? ⟨(w.heap.size + 1), 6, none⟩ = some (.int .i64 t.cost)) := ⟨_, rfl⟩
      have hSmk : ∀ wq, Blk wq v2.heap.size [.int .i64 r.way, .int .i64 r.pal.wd, .int .i64 r.pal.dp, .int .i64 r.pal.ht, .int .i64 r.pal.gram, .int .i64 r.classes, .slice h2.ap r.pairs.length h2.cp, .slice h2.at' r.types.length h2.ct, .int .i64 r.master, .slice h2.ai r.items.length h2.ci] → Blk wq (w.heap.size + 1) [.int .i64 t.id, .int .i64 t.wd, .int .i64 t.ht, .int .i64 t.dp, .int .i64 t.tare, .int .i64 t.gram, .int .i64 t.cost] → S wq := fun wq kx kt => by rw [hSdef]; exact ⟨(kx 0 (by simp)).1, (kx 1 (by simp)).1, (kx 2 (by simp)).1, (kx 3 (by simp)).1, (kx 4 (by simp)).1, (kx 5 (by simp)).1, (kx 6 (by simp)).1, (kx 7 (by simp)).1, (kx 8 (by simp)).1, (kx 9 (by simp)).1, (kt 0 (by simp)).1, (kt 1 (by simp)).1, (kt 2 (by simp)).1, (kt 3 (by simp)).1, (kt 4 (by simp)).1, (kt 5 (by simp)).1, (kt 6 (by simp)).1⟩
      have hSd : ∀ wq, S wq → (fun w' => w'.cell? ⟨v2.heap.size, 0, none⟩ = some (.int .i64 r.way) ∧ w'.cell? ⟨v2.heap.size, 1, none⟩ = some (.int .i64 r.pal.wd) ∧ w'.cell? ⟨v2.heap.size, 2, none⟩ = some (.int .i64 r.pal.dp) ∧ w'.cell? ⟨v2.heap.size, 3, none⟩ = some (.int .i64 r.pal.ht) ∧ w'.cell? ⟨v2.heap.size, 4, none⟩ = some (.int .i64 r.pal.gram) ∧ w'.cell? ⟨v2.heap.size, 5, none⟩ = some (.int .i64 r.classes) ∧ w'.cell? ⟨v2.heap.size, 6, none⟩ = some (.slice h2.ap r.pairs.length h2.cp) ∧ w'.cell? ⟨v2.heap.size, 7, none⟩ = some (.slice h2.at' r.types.length h2.ct) ∧ w'.cell? ⟨v2.heap.size, 8, none⟩ = some (.int .i64 r.master) ∧ w'.cell? ⟨v2.heap.size, 9, none⟩ = some (.slice h2.ai r.items.length h2.ci) ∧ w'.cell? ⟨(w.heap.size + 1), 0, none⟩ = some (.int .i64 t.id) ∧ w'.cell? ⟨(w.heap.size + 1), 1, none⟩ = some (.int .i64 t.wd) ∧ w'.cell? ⟨(w.heap.size + 1), 2, none⟩ = some (.int .i64 t.ht) ∧ w'.cell? ⟨(w.heap.size + 1), 3, none⟩ = some (.int .i64 t.dp) ∧ w'.cell? ⟨(w.heap.size + 1), 4, none⟩ = some (.int .i64 t.tare) ∧ w'.cell? ⟨(w.heap.size + 1), 5, none⟩ = some (.int .i64 t.gram) ∧ w'.cell? ⟨(w.heap.size + 1), 6, none⟩ = some (.int .i64 t.cost)) wq := fun wq h => by rw [hSdef] at h; exact h
      clear hSdef
      have hHeld : S v4.drew := hSmk v4.drew (unhide Kxu0) (unhide Ktu0)
      refine wp_region_to (S := S) (T := []) (by kernel_rfl) hHeld (fun _ => ?_)
      generalize v4.drew = u0 at *
      refine wpTo_take (i := 0) (v := ?_) rfl (by kernel_rfl) (by kernel_rfl) (by kernel_rfl) (by kernel_rfl) (by kernel_rfl) (fun _ _ _ h => h) (Or.inl ⟨by rfl, ?_⟩) (by assumption) ?_
      rotate_left
      · intro w hSw
        have hSw := hSd _ hSw
        (try dsimp only at hSw)
        go_simp <;> with_reducible rfl
      try simp only [Act.put, List.getElem_toArray, List.getElem_cons_zero, List.getElem_cons_succ, List.setIfInBounds_toArray, List.set_cons_zero, List.set_cons_succ]
      refine wpTo_take (i := 1) (v := ?_) rfl (by kernel_rfl) (by kernel_rfl) (by kernel_rfl) (by kernel_rfl) (by kernel_rfl) (fun _ _ _ h => h) (Or.inl ⟨by rfl, ?_⟩) (by assumption) ?_
      rotate_left
      · intro w hSw
        have hSw := hSd _ hSw
        (try dsimp only at hSw)
        go_simp <;> with_reducible rfl
      try simp only [Act.put, List.getElem_toArray, List.getElem_cons_zero, List.getElem_cons_succ, List.setIfInBounds_toArray, List.set_cons_zero, List.set_cons_succ]
      refine wpTo_take (i := 2) (v := ?_) rfl (by kernel_rfl) (by kernel_rfl) (by kernel_rfl) (by kernel_rfl) (by kernel_rfl) (fun _ _ _ h => h) (Or.inl ⟨by rfl, ?_⟩) (by assumption) ?_
      rotate_left
      · intro w hSw
        have hSw := hSd _ hSw
        (try dsimp only at hSw)
        go_simp <;> with_reducible rfl
      try simp only [Act.put, List.getElem_toArray, List.getElem_cons_zero, List.getElem_cons_succ, List.setIfInBounds_toArray, List.set_cons_zero, List.set_cons_succ]
      refine wpTo_ready (rs := [3]) (by kernel_rfl) (by simp) ?_
      refine AllTo.cons (o := _) rfl (fun K hK => ?_) ?_
      ·
       (try simp only [List.getElem_toArray, List.getElem_cons_zero, List.getElem_cons_succ])
       go_simp
       refine (toType_any _ _ _ _ _ _ _ _).mono ?_
       rintro e u5 ⟨rfl, hb⟩
       have Bu5 := hide ((unhide Bu0).trans (hb.mono (unhide Bu0).size))
       have Kau5 := hide (Blk.below hb Zau0 (unhide Kau0))
       have Zau5 := Nat.lt_of_lt_of_le Zau0 hb.size
       have Ktu5 := hide (Blk.below hb Ztu0 (unhide Ktu0))
       have Ztu5 := Nat.lt_of_lt_of_le Ztu0 hb.size
       have Kxu5 := hide (Blk.below hb Zxu0 (unhide Kxu0))
       have Zxu5 := Nat.lt_of_lt_of_le Zxu0 hb.size
       have Qru5 : Hid (RdReq u5 r h) := (unhide Qru0).mono hb
       have Qgu5 : Hid (ErrT u5) := (unhide Qgu0).later hb
       have Qyu5 : Hid (Rd u5 (a) n us) := Rd.mono (unhide Qyu0) hb
       have Qdu5 : Hid (RdReq u5 r h2) := (unhide Qdu0).mono hb
       have Qvu5 : Hid (Rd u5 (some ⟨v3.heap.size, 0, none⟩) n us) := Rd.mono (unhide Qvu0) hb
       clear hb
       clear Bu0 Kau0 Zau0 Ktu0 Ztu0 Kxu0 Zxu0 Qru0 Qgu0 Qyu0 Qdu0 Qvu0
       clear hHeld
       go_wp2_with fail
       have hHeld := hSmk u5 (unhide Kxu5) (unhide Ktu5)
       refine hK.out _ _ (fun _ => hHeld) ?_
       clear hK K
       try simp only [Act.put, List.getElem_toArray, List.getElem_cons_zero, List.getElem_cons_succ, List.setIfInBounds_toArray, List.set_cons_zero, List.set_cons_succ]
       refine wpTo_ready (rs := [4]) (by kernel_rfl) (by simp) ?_
       refine AllTo.cons (o := _) rfl (fun K hK => ?_) ?_
       ·
        (try simp only [List.getElem_toArray, List.getElem_cons_zero, List.getElem_cons_succ])
        go_simp
        refine (holds_any r h2 _ n n us t u5 (unhide Qdu5) hsm (unhide Qgu5) (unhide Qvu5) hn7).mono ?_
        rintro e u6 ⟨rfl, hb⟩
        have Bu6 := hide ((unhide Bu5).trans (hb.mono (unhide Bu5).size))
        have Kau6 := hide (Blk.below hb Zau5 (unhide Kau5))
        have Zau6 := Nat.lt_of_lt_of_le Zau5 hb.size
        have Ktu6 := hide (Blk.below hb Ztu5 (unhide Ktu5))
        have Ztu6 := Nat.lt_of_lt_of_le Ztu5 hb.size
        have Kxu6 := hide (Blk.below hb Zxu5 (unhide Kxu5))
        have Zxu6 := Nat.lt_of_lt_of_le Zxu5 hb.size
        have Qru6 : Hid (RdReq u6 r h) := (unhide Qru5).mono hb
        have Qgu6 : Hid (ErrT u6) := (unhide Qgu5).later hb
        have Qyu6 : Hid (Rd u6 (a) n us) := Rd.mono (unhide Qyu5) hb
        have Qdu6 : Hid (RdReq u6 r h2) := (unhide Qdu5).mono hb
        have Qvu6 : Hid (Rd u6 (some ⟨v3.heap.size, 0, none⟩) n us) := Rd.mono (unhide Qvu5) hb
        clear hb
        clear Bu5 Kau5 Zau5 Ktu5 Ztu5 Kxu5 Zxu5 Qru5 Qgu5 Qyu5 Qdu5 Qvu5
        clear hHeld
        go_wp2_with fail
        have hHeld := hSmk u6 (unhide Kxu6) (unhide Ktu6)
        refine hK.out _ _ (fun _ => hHeld) ?_
        clear hK K
        try simp only [Act.put, List.getElem_toArray, List.getElem_cons_zero, List.getElem_cons_succ, List.setIfInBounds_toArray, List.set_cons_zero, List.set_cons_succ]
        refine wpTo_take (i := 5) (v := ?_) rfl (by kernel_rfl) (by kernel_rfl) (by kernel_rfl) (by kernel_rfl) (by kernel_rfl) (fun _ _ _ h => h) (Or.inl ⟨by rfl, ?_⟩) (by assumption) ?_
        rotate_left
        · intro w hSw
          have hSw := hSd _ hSw
          (try dsimp only at hSw)
          go_simp <;> with_reducible rfl
        try simp only [Act.put, List.getElem_toArray, List.getElem_cons_zero, List.getElem_cons_succ, List.setIfInBounds_toArray, List.set_cons_zero, List.set_cons_succ]
        refine wpTo_done (by kernel_rfl) ?_ _
        refine NoPanic.normal ?_
        go_wp2_with fail
        go_meet
        case rel => exact ⟨rfl, unhide Kau6, Zau6, unhide Ktu6, Ztu6, unhide Kxu6, Zxu6, unhide Qru6, unhide Qgu6, unhide Qyu6, unhide Qdu6, unhide Qvu6, unhide Bu6⟩
       exact AllTo.nil
      exact AllTo.nil
    case rest =>
      clear Bv4 Kav4 Zav4 Ktv4 Ztv4 Kxv4 Zxv4 Qrv4 Qgv4 Qyv4 Qdv4 Qvv4
      obtain ⟨rfl, ka, za, kt, zt, kx, zx, qr, qg, qy, qd, qv, hb⟩ := hcut
      obtain ⟨wC, hw8⟩ : ∃ w8 : World, w8 = wc := ⟨_, rfl⟩
      subst wc
      have BwC := hide hb
      have KawC := hide ka
      have ZawC : w.heap.size < wC.heap.size := za
      have KtwC := hide kt
      have ZtwC : (w.heap.size + 1) < wC.heap.size := zt
      have KxwC := hide kx
      have ZxwC : v2.heap.size < wC.heap.size := zx
      have QrwC : Hid (RdReq wC r h) := qr
      have QgwC : Hid (ErrT wC) := qg
      have QywC : Hid (Rd wC (a) n us) := qy
      have QdwC : Hid (RdReq wC r h2) := qd
      have QvwC : Hid (Rd wC (some ⟨v3.heap.size, 0, none⟩) n us) := qv
      clear hb ka za kt zt kx zx qr qg qy qd qv
      go_upto_region 13 with fail
      go_cut [43] (fun v wc => v = .bool false ∧ Blk wc w.heap.size [.int .i64 r.way, .int .i64 r.pal.wd, .int .i64 r.pal.dp, .int .i64 r.pal.ht, .int .i64 r.pal.gram, .int .i64 r.classes, .slice h.ap r.pairs.length h.cp, .slice h.at' r.types.length h.ct, .int .i64 r.master, .slice h.ai r.items.length h.ci] ∧ w.heap.size < wc.heap.size ∧ Blk wc (w.heap.size + 1) [.int .i64 t.id, .int .i64 t.wd, .int .i64 t.ht, .int .i64 t.dp, .int .i64 t.tare, .int .i64 t.gram, .int .i64 t.cost] ∧ (w.heap.size + 1) < wc.heap.size ∧ Blk wc v2.heap.size [.int .i64 r.way, .int .i64 r.pal.wd, .int .i64 r.pal.dp, .int .i64 r.pal.ht, .int .i64 r.pal.gram, .int .i64 r.classes, .slice h2.ap r.pairs.length h2.cp, .slice h2.at' r.types.length h2.ct, .int .i64 r.master, .slice h2.ai r.items.length h2.ci] ∧ v2.heap.size < wc.heap.size ∧ RdReq wc r h ∧ ErrT wc ∧ Rd wc (a) n us ∧ RdReq wc r h2 ∧ Rd wc (some ⟨v3.heap.size, 0, none⟩) n us ∧ Below w.heap.size w wc)
      case first =>
        refine wp_region_noPanic ?_
        have Bu0 : Hid (Below w.heap.size w wC.drew) := (unhide BwC).drew
        have Qru0 : Hid (RdReq wC.drew r h) := (unhide QrwC).mono (Below.refl _ _).drew
        have Qgu0 : Hid (ErrT wC.drew) := (unhide QgwC).later (Below.refl _ _).drew
        have Qyu0 : Hid (Rd wC.drew (a) n us) := Rd.mono (unhide QywC) (Below.refl _ _).drew
        have Qdu0 : Hid (RdReq wC.drew r h2) := (unhide QdwC).mono (Below.refl _ _).drew
        have Qvu0 : Hid (Rd wC.drew (some ⟨v3.heap.size, 0, none⟩) n us) := Rd.mono (unhide QvwC) (Below.refl _ _).drew
        have Kau0 : Hid (Blk wC.drew w.heap.size [.int .i64 r.way, .int .i64 r.pal.wd, .int .i64 r.pal.dp, .int .i64 r.pal.ht, .int .i64 r.pal.gram, .int .i64 r.classes, .slice h.ap r.pairs.length h.cp, .slice h.at' r.types.length h.ct, .int .i64 r.master, .slice h.ai r.items.length h.ci]) := unhide KawC
        have Zau0 : w.heap.size < wC.drew.heap.size := ZawC
        have Ktu0 : Hid (Blk wC.drew (w.heap.size + 1) [.int .i64 t.id, .int .i64 t.wd, .int .i64 t.ht, .int .i64 t.dp, .int .i64 t.tare, .int .i64 t.gram, .int .i64 t.cost]) := unhide KtwC
        have Ztu0 : (w.heap.size + 1) < wC.drew.heap.size := ZtwC
        have Kxu0 : Hid (Blk wC.drew v2.heap.size [.int .i64 r.way, .int .i64 r.pal.wd, .int .i64 r.pal.dp, .int .i64 r.pal.ht, .int .i64 r.pal.gram, .int .i64 r.classes, .slice h2.ap r.pairs.length h2.cp, .slice h2.at' r.types.length h2.ct, .int .i64 r.master, .slice h2.ai r.items.length h2.ci]) := unhide KxwC
        have Zxu0 : v2.heap.size < wC.drew.heap.size := ZxwC
        obtain ⟨S, hSdef⟩ : ∃ S : World → Prop, S = (fun w' => w'.cell? ⟨v2.heap.size, 0, none⟩ = some (.int .i64 r.way) ∧ w'.cell? ⟨v2.heap.size, 1, none⟩ = some (.int .i64 r.pal.wd) ∧ w'.cell? ⟨v2.heap.size, 2, none⟩ = some (.int .i64 r.pal.dp) ∧ w'.cell? ⟨v2.heap.size, 3, none⟩ = some (.int .i64 r.pal.ht) ∧ w'.cell? ⟨v2.heap.size, 4, none⟩ = some (.int .i64 r.pal.gram) ∧ w'.cell? ⟨v2.heap.size, 5, none⟩ = some (.int .i64 r.classes) ∧ w'.cell? ⟨v2.heap.size, 6, none⟩ = some (.slice h2.ap r.pairs.length h2.cp) ∧ w'.cell? ⟨v2.heap.size, 7, none⟩ = some (.slice h2.at' r.types.length h2.ct) ∧ w'.cell? ⟨v2.heap.size, 8, none⟩ = some (.int .i64 r.master) ∧ w'.cell? ⟨v2.heap.size, 9, none⟩ = some (.slice h2.ai r.items.length h2.ci) ∧ w'.cell? ⟨w.heap.size, 0, none⟩ = some (.int .i64 r.way) ∧ w'.cell? ⟨w.heap.size, 1, none⟩ = some (.int .i64 r.pal.wd) ∧ w'.cell? ⟨w.heap.size, 2, none⟩ = some (.int .i64 r.pal.dp) ∧ w'.cell? ⟨w.heap.size, 3, none⟩ = some (.int .i64 r.pal.ht) ∧ w'.cell? ⟨w.heap.size, 4, none⟩ = some (.int .i64 r.pal.gram) ∧ w'.cell? ⟨w.heap.size, 5, none⟩ = some (.int .i64 r.classes) ∧ w'.cell? ⟨w.heap.size, 6, none⟩ = some (.slice h.ap r.pairs.length h.cp) ∧ w'.cell? ⟨w.heap.size, 7, none⟩ = some (.slice h.at' r.types.length h.ct) ∧ w'.cell? ⟨w.heap.size, 8, none⟩ = some (.int .i64 r.master) ∧ w'.cell? ⟨w.heap.size, 9, none⟩ = some (.slice h.ai r.items.length h.ci)) := ⟨_, rfl⟩
        have hSmk : ∀ wq, Blk wq v2.heap.size [.int .i64 r.way, .int .i64 r.pal.wd, .int .i64 r.pal.dp, .int .i64 r.pal.ht, .int .i64 r.pal.gram, .int .i64 r.classes, .slice h2.ap r.pairs.length h2.cp, .slice h2.at' r.types.length h2.ct, .int .i64 r.master, .slice h2.ai r.items.length h2.ci] → Blk wq w.heap.size [.int .i64 r.way, .int .i64 r.pal.wd, .int .i64 r.pal.dp, .int .i64 r.pal.ht, .int .i64 r.pal.gram, .int .i64 r.classes, .slice h.ap r.pairs.length h.cp, .slice h.at' r.types.length h.ct, .int .i64 r.master, .slice h.ai r.items.length h.ci] → S wq := fun wq kx ka => by rw [hSdef]; exact ⟨(kx 0 (by simp)).1, (kx 1 (by simp)).1, (kx 2 (by simp)).1, (kx 3 (by simp)).1, (kx 4 (by simp)).1, (kx 5 (by simp)).1, (kx 6 (by simp)).1, (kx 7 (by simp)).1, (kx 8 (by simp)).1, (kx 9 (by simp)).1, (ka 0 (by simp)).1, (ka 1 (by simp)).1, (ka 2 (by simp)).1, (ka 3 (by simp)).1, (ka 4 (by simp)).1, (ka 5 (by simp)).1, (ka 6 (by simp)).1, (ka 7 (by simp)).1, (ka 8 (by simp)).1, (ka 9 (by simp)).1⟩
        have hSd : ∀ wq, S wq → (fun w' => w'.cell? ⟨v2.heap.size, 0, none⟩ = some (.int .i64 r.way) ∧ w'.cell? ⟨v2.heap.size, 1, none⟩ = some (.int .i64 r.pal.wd) ∧ w'.cell? ⟨v2.heap.size, 2, none⟩ = some (.int .i64 r.pal.dp) ∧ w'.cell? ⟨v2.heap.size, 3, none⟩ = some (.int .i64 r.pal.ht) ∧ w'.cell? ⟨v2.heap.size, 4, none⟩ = some (.int .i64 r.pal.gram) ∧ w'.cell? ⟨v2.heap.size, 5, none⟩ = some (.int .i64 r.classes) ∧ w'.cell? ⟨v2.heap.size, 6, none⟩ = some (.slice h2.ap r.pairs.length h2.cp) ∧ w'.cell? ⟨v2.heap.size, 7, none⟩ = some (.slice h2.at' r.types.length h2.ct) ∧ w'.cell? ⟨v2.heap.size, 8, none⟩ = some (.int .i64 r.master) ∧ w'.cell? ⟨v2.heap.size, 9, none⟩ = some (.slice h2.ai r.items.length h2.ci) ∧ w'.cell? ⟨w.heap.size, 0, none⟩ = some (.int .i64 r.way) ∧ w'.cell? ⟨w.heap.size, 1, none⟩ = some (.int .i64 r.pal.wd) ∧ w'.cell? ⟨w.heap.size, 2, none⟩ = some (.int .i64 r.pal.dp) ∧ w'.cell? ⟨w.heap.size, 3, none⟩ = some (.int .i64 r.pal.ht) ∧ w'.cell? ⟨w.heap.size, 4, none⟩ = some (.int .i64 r.pal.gram) ∧ w'.cell? ⟨w.heap.size, 5, none⟩ = some (.int .i64 r.classes) ∧ w'.cell? ⟨w.heap.size, 6, none⟩ = some (.slice h.ap r.pairs.length h.cp) ∧ w'.cell? ⟨w.heap.size, 7, none⟩ = some (.slice h.at' r.types.length h.ct) ∧ w'.cell? ⟨w.heap.size, 8, none⟩ = some (.int .i64 r.master) ∧ w'.cell? ⟨w.heap.size, 9, none⟩ = some (.slice h.ai r.items.length h.ci)) wq := fun wq h => by rw [hSdef] at h; exact h
        clear hSdef
        have hHeld : S wC.drew := hSmk wC.drew (unhide Kxu0) (unhide Kau0)
        refine wp_region_to (S := S) (T := []) (by kernel_rfl) hHeld (fun _ => ?_)
        generalize wC.drew = u0 at *
        refine wpTo_take (i := 0) (v := ?_) rfl (by kernel_rfl) (by kernel_rfl) (by kernel_rfl) (by kernel_rfl) (by kernel_rfl) (fun _ _ _ h => h) (Or.inl ⟨by rfl, ?_⟩) (by assumption) ?_
        rotate_left
        · intro w hSw
          have hSw := hSd _ hSw
          (try dsimp only at hSw)
          go_simp <;> with_reducible rfl
        try simp only [Act.put, List.getElem_toArray, List.getElem_cons_zero, List.getElem_cons_succ, List.setIfInBounds_toArray, List.set_cons_zero, List.set_cons_succ]
        refine wpTo_take (i := 1) (v := ?_) rfl (by kernel_rfl) (by kernel_rfl) (by kernel_rfl) (by kernel_rfl) (by kernel_rfl) (fun _ _ _ h => h) (Or.inl ⟨by rfl, ?_⟩) (by assumption) ?_
        rotate_left
        · intro w hSw
          have hSw := hSd _ hSw
          (try dsimp only at hSw)
          go_simp <;> with_reducible rfl
        try simp only [Act.put, List.getElem_toArray, List.getElem_cons_zero, List.getElem_cons_succ, List.setIfInBounds_toArray, List.set_cons_zero, List.set_cons_succ]
        refine wpTo_ready (rs := [2]) (by kernel_rfl) (by simp) ?_
        refine AllTo.cons (o := _) rfl (fun K hK => ?_) ?_
        ·
         (try simp only [List.getElem_toArray, List.getElem_cons_zero, List.getElem_cons_succ])
         go_simp
         refine (toRequest_any r h u0 (unhide Qru0) hsm).mono ?_
         rintro e u5 ⟨h1, rfl, hq, hf, hb⟩
         have Bu5 := hide ((unhide Bu0).trans (hb.mono (unhide Bu0).size))
         have Kau5 := hide (Blk.below hb Zau0 (unhide Kau0))
         have Zau5 := Nat.lt_of_lt_of_le Zau0 hb.size
         have Ktu5 := hide (Blk.below hb Ztu0 (unhide Ktu0))
         have Ztu5 := Nat.lt_of_lt_of_le Ztu0 hb.size
         have Kxu5 := hide (Blk.below hb Zxu0 (unhide Kxu0))
         have Zxu5 := Nat.lt_of_lt_of_le Zxu0 hb.size
         have Qru5 : Hid (RdReq u5 r h) := (unhide Qru0).mono hb
         have Qgu5 : Hid (ErrT u5) := (unhide Qgu0).later hb
         have Qyu5 : Hid (Rd u5 (a) n us) := Rd.mono (unhide Qyu0) hb
         have Qdu5 : Hid (RdReq u5 r h2) := (unhide Qdu0).mono hb
         have Qvu5 : Hid (Rd u5 (some ⟨v3.heap.size, 0, none⟩) n us) := Rd.mono (unhide Qvu0) hb
         have Qcu5 : Hid (RdReq u5 r h1) := hq
         clear hq hf
         clear hb
         clear Bu0 Kau0 Zau0 Ktu0 Ztu0 Kxu0 Zxu0 Qru0 Qgu0 Qyu0 Qdu0 Qvu0
         clear hHeld
         go_wp2_with fail
         have hHeld := hSmk u5 (unhide Kxu5) (unhide Kau5)
         refine hK.out _ _ (fun _ => hHeld) ?_
         clear hK K
         try simp only [Act.put, List.getElem_toArray, List.getElem_cons_zero, List.getElem_cons_succ, List.setIfInBounds_toArray, List.set_cons_zero, List.set_cons_succ]
         refine wpTo_ready (rs := [3]) (by kernel_rfl) (by simp) ?_
         refine AllTo.cons (o := _) rfl (fun K hK => ?_) ?_
         ·
          (try simp only [List.getElem_toArray, List.getElem_cons_zero, List.getElem_cons_succ])
          go_simp
          refine (eqRequest_same r h2 h1 u5 (unhide Qdu5) (unhide Qcu5) hsm).mono ?_
          rintro e u6 ⟨rfl, hb⟩
          have Bu6 := hide ((unhide Bu5).trans (hb.mono (unhide Bu5).size))
          have Kau6 := hide (Blk.below hb Zau5 (unhide Kau5))
          have Zau6 := Nat.lt_of_lt_of_le Zau5 hb.size
          have Ktu6 := hide (Blk.below hb Ztu5 (unhide Ktu5))
          have Ztu6 := Nat.lt_of_lt_of_le Ztu5 hb.size
          have Kxu6 := hide (Blk.below hb Zxu5 (unhide Kxu5))
          have Zxu6 := Nat.lt_of_lt_of_le Zxu5 hb.size
          have Qru6 : Hid (RdReq u6 r h) := (unhide Qru5).mono hb
          have Qgu6 : Hid (ErrT u6) := (unhide Qgu5).later hb
          have Qyu6 : Hid (Rd u6 (a) n us) := Rd.mono (unhide Qyu5) hb
          have Qdu6 : Hid (RdReq u6 r h2) := (unhide Qdu5).mono hb
          have Qvu6 : Hid (Rd u6 (some ⟨v3.heap.size, 0, none⟩) n us) := Rd.mono (unhide Qvu5) hb
          have Qcu6 : Hid (RdReq u6 r h1) := (unhide Qcu5).mono hb
          clear hb
          clear Bu5 Kau5 Zau5 Ktu5 Ztu5 Kxu5 Zxu5 Qru5 Qgu5 Qyu5 Qdu5 Qvu5 Qcu5
          clear hHeld
          go_wp2_with fail
          have hHeld := hSmk u6 (unhide Kxu6) (unhide Kau6)
          refine hK.out _ _ (fun _ => hHeld) ?_
          clear hK K
          try simp only [Act.put, List.getElem_toArray, List.getElem_cons_zero, List.getElem_cons_succ, List.setIfInBounds_toArray, List.set_cons_zero, List.set_cons_succ]
          refine wpTo_take (i := 4) (v := ?_) rfl (by kernel_rfl) (by kernel_rfl) (by kernel_rfl) (by kernel_rfl) (by kernel_rfl) (fun _ _ _ h => h) (Or.inl ⟨by rfl, ?_⟩) (by assumption) ?_
          rotate_left
          · intro w hSw
            have hSw := hSd _ hSw
            (try dsimp only at hSw)
            go_simp <;> with_reducible rfl
          try simp only [Act.put, List.getElem_toArray, List.getElem_cons_zero, List.getElem_cons_succ, List.setIfInBounds_toArray, List.set_cons_zero, List.set_cons_succ]
          refine wpTo_done (by kernel_rfl) ?_ _
          refine NoPanic.normal ?_
          go_wp2_with fail
          go_meet
          case rel => exact ⟨rfl, unhide Kau6, Zau6, unhide Ktu6, Ztu6, unhide Kxu6, Zxu6, unhide Qru6, unhide Qgu6, unhide Qyu6, unhide Qdu6, unhide Qvu6, unhide Bu6⟩
         exact AllTo.nil
        exact AllTo.nil
      case rest =>
        clear BwC KawC ZawC KtwC ZtwC KxwC ZxwC QrwC QgwC QywC QdwC QvwC
        obtain ⟨rfl, ka, za, kt, zt, kx, zx, qr, qg, qy, qd, qv, hb⟩ := hcut
        obtain ⟨wD, hw8⟩ : ∃ w8 : World, w8 = wc := ⟨_, rfl⟩
        subst wc
        have BwD := hide hb
        have KawD := hide ka
        have ZawD : w.heap.size < wD.heap.size := za
        have KtwD := hide kt
        have ZtwD : (w.heap.size + 1) < wD.heap.size := zt
        have KxwD := hide kx
        have ZxwD : v2.heap.size < wD.heap.size := zx
        have QrwD : Hid (RdReq wD r h) := qr
        have QgwD : Hid (ErrT wD) := qg
        have QywD : Hid (Rd wD (a) n us) := qy
        have QdwD : Hid (RdReq wD r h2) := qd
        have QvwD : Hid (Rd wD (some ⟨v3.heap.size, 0, none⟩) n us) := qv
        clear hb ka za kt zt kx zx qr qg qy qd qv
        go_wp2_with fail
        refine (toIntS_any a n c us _ (unhide QywD) hn6).mono ?_
        rintro e v5 ⟨rfl, ho, hb⟩
        have Bv5 := hide ((unhide BwD).trans (hb.mono (unhide BwD).size))
        have Kav5 := hide (Blk.below hb ZawD (unhide KawD))
        have Zav5 := Nat.lt_of_lt_of_le ZawD hb.size
        have Ktv5 := hide (Blk.below hb ZtwD (unhide KtwD))
        have Ztv5 := Nat.lt_of_lt_of_le ZtwD hb.size
        have Kxv5 := hide (Blk.below hb ZxwD (unhide KxwD))
        have Zxv5 := Nat.lt_of_lt_of_le ZxwD hb.size
        have Qrv5 : Hid (RdReq v5 r h) := (unhide QrwD).mono hb
        have Qgv5 : Hid (ErrT v5) := (unhide QgwD).later hb
        have Qyv5 : Hid (Rd v5 (a) n us) := Rd.mono (unhide QywD) hb
        have Qdv5 : Hid (RdReq v5 r h2) := (unhide QdwD).mono hb
        have Qvv5 : Hid (Rd v5 (some ⟨v3.heap.size, 0, none⟩) n us) := Rd.mono (unhide QvwD) hb
        clear hb
        clear BwD KawD ZawD KtwD ZtwD KxwD ZxwD QrwD QgwD QywD QdwD QvwD
        have Qsv5 : Hid (Rd v5 (some ⟨wD.heap.size, 0, none⟩) n us) := Rd.of_owns ho
        clear ho
        go_wp2_with fail
        refine (eqIntS_same _ _ _ _ _ us _ (unhide Qvv5) (unhide Qsv5) hn6).mono ?_
        rintro e v6 ⟨rfl, hb⟩
        have Bv6 := hide ((unhide Bv5).trans (hb.mono (unhide Bv5).size))
        have Kav6 := hide (Blk.below hb Zav5 (unhide Kav5))
        have Zav6 := Nat.lt_of_lt_of_le Zav5 hb.size
        have Ktv6 := hide (Blk.below hb Ztv5 (unhide Ktv5))
        have Ztv6 := Nat.lt_of_lt_of_le Ztv5 hb.size
        have Kxv6 := hide (Blk.below hb Zxv5 (unhide Kxv5))
        have Zxv6 := Nat.lt_of_lt_of_le Zxv5 hb.size
        have Qrv6 : Hid (RdReq v6 r h) := (unhide Qrv5).mono hb
        have Qgv6 : Hid (ErrT v6) := (unhide Qgv5).later hb
        have Qyv6 : Hid (Rd v6 (a) n us) := Rd.mono (unhide Qyv5) hb
        have Qdv6 : Hid (RdReq v6 r h2) := (unhide Qdv5).mono hb
        have Qvv6 : Hid (Rd v6 (some ⟨v3.heap.size, 0, none⟩) n us) := Rd.mono (unhide Qvv5) hb
        have Qsv6 : Hid (Rd v6 (some ⟨wD.heap.size, 0, none⟩) n us) := Rd.mono (unhide Qsv5) hb
        clear hb
        clear Bv5 Kav5 Zav5 Ktv5 Ztv5 Kxv5 Zxv5 Qrv5 Qgv5 Qyv5 Qdv5 Qvv5 Qsv5
        go_wp2_with fail
        go_ret
        exact ⟨rfl, unhide Bv6⟩
end Go.Proofs.YtpoonidoijepaabGreatDoor
