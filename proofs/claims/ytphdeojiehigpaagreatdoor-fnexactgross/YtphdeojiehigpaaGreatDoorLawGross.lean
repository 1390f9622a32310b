/- The law of Gross, walked. -/
import Derived.Test.YtphdeojiehigpaaGreatDoorGrossSpec
import Derived.Test.YtphdeojiehigpaaGreatDoorGrossImpl
import Derived.Test.YtphdeojiehigpaaGreatDoorPkA
import Derived.Test.YtphdeojiehigpaaGreatDoorCartons
import Derived.Deep.DeepMust
import Derived.Deep.DeepCutAuto
namespace Go.Proofs.YtphdeojiehigpaaGreatDoor
open Go.RowKit
set_option linter.unusedVariables false
set_option linter.unusedSimpArgs false
set_option maxRecDepth 100000 in
set_option maxHeartbeats 4000000 in
theorem law_gross (r : ReqV) (h : ReqH) (t p : Int) (a : Option Addr) (c : Nat) (us : List Int) (w : World) (hr : RdReq w r h) (hp : r.pairs.length ≤ maxLen) (ht : r.types.length ≤ maxLen) (hi : r.items.length ≤ maxLen) (hg : ErrT w) (hu : Rd w a us.length us) (hm : us.length ≤ maxLen) :
    Calls Tryz.prog 3 #[reqVal r h, .agg #[.int .i64 t, .int .i64 p, .slice a us.length c]] w fun e w' => e = .returned (.bool true) ∧ Below w.heap.size w w' := by
  have hne : (grossR r ⟨t, p, us⟩ != grossR r ⟨t, p, us⟩) = false := by simp
  by_cases hs : (1048576 : Int) - r.pairs.length - r.types.length - r.items.length < 0
  · unfold reqVal
    go_enter Tryz.func3, Tryz.ntmps3
    go_wp2_with fail
    refine (szRequest_any r h _ _ (by omega) (by omega) hp ht hi).mono ?_
    rintro e w1 ⟨rfl, hb1⟩
    rw [if_pos (by omega)]
    have H1 : Hid (Below w.heap.size w w1) := (((Below.refl w.heap.size w).alloc (Nat.le_refl _) _).alloc (by simp) _).trans (hb1.mono (by simp; omega))
    clear hb1
    go_wp2_with fail
    go_ret
    exact ⟨rfl, unhide H1⟩
  have hsm : r.small := by unfold ReqV.small; omega
  have htl : r.types.length ≤ 1048600 := by unfold ReqV.small at hsm; omega
  unfold reqVal
  go_enter Tryz.func3, Tryz.ntmps3
  go_wp2_with fail
  have BwA : Hid (Below w.heap.size w ((w.alloc (.cells #[.int .i64 r.way, .int .i64 r.pal.wd, .int .i64 r.pal.dp, .int .i64 r.pal.ht, .int .i64 r.pal.gram, .int .i64 r.classes, .slice h.ap r.pairs.length h.cp, .slice h.at' r.types.length h.ct, .int .i64 r.master, .slice h.ai r.items.length h.ci] 28)).alloc (.cells #[.int .i64 t, .int .i64 p, .slice a us.length c] 31))) := (((Below.refl _ _).alloc (by simp) _).alloc (by simp) _)
  have KawA : Hid (Blk ((w.alloc (.cells #[.int .i64 r.way, .int .i64 r.pal.wd, .int .i64 r.pal.dp, .int .i64 r.pal.ht, .int .i64 r.pal.gram, .int .i64 r.classes, .slice h.ap r.pairs.length h.cp, .slice h.at' r.types.length h.ct, .int .i64 r.master, .slice h.ai r.items.length h.ci] 28)).alloc (.cells #[.int .i64 t, .int .i64 p, .slice a us.length c] 31)) w.heap.size [.int .i64 r.way, .int .i64 r.pal.wd, .int .i64 r.pal.dp, .int .i64 r.pal.ht, .int .i64 r.pal.gram, .int .i64 r.classes, .slice h.ap r.pairs.length h.cp, .slice h.at' r.types.length h.ct, .int .i64 r.master, .slice h.ai r.items.length h.ci]) := ((Blk.allocAt (w := w) [.int .i64 r.way, .int .i64 r.pal.wd, .int .i64 r.pal.dp, .int .i64 r.pal.ht, .int .i64 r.pal.gram, .int .i64 r.classes, .slice h.ap r.pairs.length h.cp, .slice h.at' r.types.length h.ct, .int .i64 r.master, .slice h.ai r.items.length h.ci] (by simp)).allocOld (by simp) _)
  have ZawA : w.heap.size < ((w.alloc (.cells #[.int .i64 r.way, .int .i64 r.pal.wd, .int .i64 r.pal.dp, .int .i64 r.pal.ht, .int .i64 r.pal.gram, .int .i64 r.classes, .slice h.ap r.pairs.length h.cp, .slice h.at' r.types.length h.ct, .int .i64 r.master, .slice h.ai r.items.length h.ci] 28)).alloc (.cells #[.int .i64 t, .int .i64 p, .slice a us.length c] 31)).heap.size := by simp <;> omega
  have Ga : w.heap.size ≤ w.heap.size := by omega
  have KbwA : Hid (Blk ((w.alloc (.cells #[.int .i64 r.way, .int .i64 r.pal.wd, .int .i64 r.pal.dp, .int .i64 r.pal.ht, .int .i64 r.pal.gram, .int .i64 r.classes, .slice h.ap r.pairs.length h.cp, .slice h.at' r.types.length h.ct, .int .i64 r.master, .slice h.ai r.items.length h.ci] 28)).alloc (.cells #[.int .i64 t, .int .i64 p, .slice a us.length c] 31)) (w.heap.size + 1) [.int .i64 t, .int .i64 p, .slice a us.length c]) := (Blk.allocAt (w := (w.alloc (.cells #[.int .i64 r.way, .int .i64 r.pal.wd, .int .i64 r.pal.dp, .int .i64 r.pal.ht, .int .i64 r.pal.gram, .int .i64 r.classes, .slice h.ap r.pairs.length h.cp, .slice h.at' r.types.length h.ct, .int .i64 r.master, .slice h.ai r.items.length h.ci] 28))) [.int .i64 t, .int .i64 p, .slice a us.length c] (by simp))
  have ZbwA : (w.heap.size + 1) < ((w.alloc (.cells #[.int .i64 r.way, .int .i64 r.pal.wd, .int .i64 r.pal.dp, .int .i64 r.pal.ht, .int .i64 r.pal.gram, .int .i64 r.classes, .slice h.ap r.pairs.length h.cp, .slice h.at' r.types.length h.ct, .int .i64 r.master, .slice h.ai r.items.length h.ci] 28)).alloc (.cells #[.int .i64 t, .int .i64 p, .slice a us.length c] 31)).heap.size := by simp
  have Gb : w.heap.size ≤ (w.heap.size + 1) := by omega
  have Nqab : w.heap.size ≠ (w.heap.size + 1) := by omega
  have Nqba : (w.heap.size + 1) ≠ w.heap.size := by omega
  generalize ((w.alloc (.cells #[.int .i64 r.way, .int .i64 r.pal.wd, .int .i64 r.pal.dp, .int .i64 r.pal.ht, .int .i64 r.pal.gram, .int .i64 r.classes, .slice h.ap r.pairs.length h.cp, .slice h.at' r.types.length h.ct, .int .i64 r.master, .slice h.ai r.items.length h.ci] 28)).alloc (.cells #[.int .i64 t, .int .i64 p, .slice a us.length c] 31)) = wA at *
  have QrwA : Hid (RdReq wA r h) := hr.mono (unhide BwA)
  have QgwA : Hid (ErrT wA) := hg.later (unhide BwA)
  have QywA : Hid (Rd wA (a) us.length us) := hu.mono (unhide BwA)
  clear hr hg hu
  refine (szRequest_any r h _ _ (by omega) (by omega) hp ht hi).mono ?_
  rintro e v1 ⟨rfl, hb⟩
  have Bv1 := hide ((unhide BwA).trans (hb.mono (unhide BwA).size))
  have Kav1 := hide (Blk.below hb ZawA (unhide KawA))
  have Zav1 := Nat.lt_of_lt_of_le ZawA hb.size
  have Kbv1 := hide (Blk.below hb ZbwA (unhide KbwA))
  have Zbv1 := Nat.lt_of_lt_of_le ZbwA hb.size
  have Qrv1 : Hid (RdReq v1 r h) := (unhide QrwA).mono hb
  have Qgv1 : Hid (ErrT v1) := (unhide QgwA).later hb
  have Qyv1 : Hid (Rd v1 (a) us.length us) := Rd.mono (unhide QywA) hb
  clear hb
  clear BwA KawA ZawA KbwA ZbwA QrwA QgwA QywA
  rw [if_neg (by omega)]
  have cb0 : v1.cell? ⟨(w.heap.size + 1), 0, none⟩ = some (.int .i64 t) := ((unhide Kbv1) 0 (by simp)).1
  have cb1 : v1.cell? ⟨(w.heap.size + 1), 1, none⟩ = some (.int .i64 p) := ((unhide Kbv1) 1 (by simp)).1
  have cb2 : v1.cell? ⟨(w.heap.size + 1), 2, none⟩ = some (.slice a us.length c) := ((unhide Kbv1) 2 (by simp)).1
  go_wp2_with fail
  refine (szCarton_any t p a us.length c _ _ hm (by omega) (by omega)).mono ?_
  rintro e v2 ⟨rfl, hb⟩
  have Bv2 := hide ((unhide Bv1).trans (hb.mono (unhide Bv1).size))
  have Kav2 := hide (Blk.below hb Zav1 (unhide Kav1))
  have Zav2 := Nat.lt_of_lt_of_le Zav1 hb.size
  have Kbv2 := hide (Blk.below hb Zbv1 (unhide Kbv1))
  have Zbv2 := Nat.lt_of_lt_of_le Zbv1 hb.size
  have Qrv2 : Hid (RdReq v2 r h) := (unhide Qrv1).mono hb
  have Qgv2 : Hid (ErrT v2) := (unhide Qgv1).later hb
  have Qyv2 : Hid (Rd v2 (a) us.length us) := Rd.mono (unhide Qyv1) hb
  clear hb
  clear Bv1 Kav1 Zav1 Kbv1 Zbv1 Qrv1 Qgv1 Qyv1
  clear cb0 cb1 cb2
  by_cases hbig : (1048576 : Int) - r.pairs.length - r.types.length - r.items.length - us.length < 0
  · rw [if_pos hbig]
    go_wp2_with fail
    go_ret
    exact ⟨rfl, unhide Bv2⟩
  rw [if_neg hbig]
  have hn6 : us.length ≤ 1048576 := by omega
  have hn7 : us.length ≤ 1048600 := by omega
  go_upto_region 8 with fail
  go_cut [6] (fun v wc => v = .int .i64 (grossR r ⟨t, p, us⟩) ∧ Blk wc w.heap.size [.int .i64 r.way, .int .i64 r.pal.wd, .int .i64 r.pal.dp, .int .i64 r.pal.ht, .int .i64 r.pal.gram, .int .i64 r.classes, .slice h.ap r.pairs.length h.cp, .slice h.at' r.types.length h.ct, .int .i64 r.master, .slice h.ai r.items.length h.ci] ∧ w.heap.size < wc.heap.size ∧ Blk wc (w.heap.size + 1) [.int .i64 t, .int .i64 p, .slice a us.length c] ∧ (w.heap.size + 1) < wc.heap.size ∧ RdReq wc r h ∧ ErrT wc ∧ Rd wc (a) us.length us ∧ Below w.heap.size w wc)
  case first =>
    refine wp_region_noPanic ?_
    have Bu0 : Hid (Below w.heap.size w v2.drew) := (unhide Bv2).drew
    have Qru0 : Hid (RdReq v2.drew r h) := (unhide Qrv2).mono (Below.refl _ _).drew
    have Qgu0 : Hid (ErrT v2.drew) := (unhide Qgv2).later (Below.refl _ _).drew
    have Qyu0 : Hid (Rd v2.drew (a) us.length us) := Rd.mono (unhide Qyv2) (Below.refl _ _).drew
    have Kau0 : Hid (Blk v2.drew w.heap.size [.int .i64 r.way, .int .i64 r.pal.wd, .int .i64 r.pal.dp, .int .i64 r.pal.ht, .int .i64 r.pal.gram, .int .i64 r.classes, .slice h.ap r.pairs.length h.cp, .slice h.at' r.types.length h.ct, .int .i64 r.master, .slice h.ai r.items.length h.ci]) := unhide Kav2
    have Zau0 : w.heap.size < v2.drew.heap.size := Zav2
    have Kbu0 : Hid (Blk v2.drew (w.heap.size + 1) [.int .i64 t, .int .i64 p, .slice a us.length c]) := unhide Kbv2
    have Zbu0 : (w.heap.size + 1) < v2.drew.heap.size := Zbv2
    obtain ⟨S, hSdef⟩ : ∃ S : World → Prop, S = (fun w' => w'.cell? ⟨w.heap.size, 0, none⟩ = some (.int .i64 r.way) ∧ w'.cell? ⟨w.heap.size, 1, none⟩ = some (.int .i64 r.pal.wd) ∧ w'.cell? ⟨w.heap.size, 2, none⟩ = some (.int .i64 r.pal.dp) ∧ w'.cell? ⟨w.heap.size, 3, none⟩ = some (.int .i64 r.pal.ht) ∧ w'.cell? ⟨w.heap.size, 4, none⟩ = some (.int .i64 r.pal.gram) ∧ w'.cell? ⟨w.heap.size, 5, none⟩ = some (.int .i64 r.classes) ∧ w'.cell? ⟨w.heap.size, 6, none⟩ = some (.slice h.ap r.pairs.length h.cp) ∧ w'.cell? ⟨w.heap.size, 7, none⟩ = some (.slice h.at' r.types.length h.ct) ∧ w'.cell? ⟨w.heap.size, 8, none⟩ = some (.int .i64 r.master) ∧ w'.cell? ⟨w.heap.size, 9, none⟩ = some (.slice h.ai r.items.length h.ci) ∧ w'.cell? ⟨(w.heap.size + 1), 0, none⟩ = some (.int .i64 t) ∧ w'.cell? ⟨(w.heap.size + 1), 1, none⟩ = some (.int .i64 p) ∧ w'.cell? ⟨(w.heap.size + 1), 2, none⟩ = some (.slice a us.length c)) := ⟨_, rfl⟩
    have hSmk : ∀ wq, Blk wq w.heap.size [.int .i64 r.way, .int .i64 r.pal.wd, .int .i64 r.pal.dp, .int .i64 r.pal.ht, .int .i64 r.pal.gram, .int .i64 r.classes, .slice h.ap r.pairs.length h.cp, .slice h.at' r.types.length h.ct, .int .i64 r.master, .slice h.ai r.items.length h.ci] → Blk wq (w.heap.size + 1) [.int .i64 t, .int .i64 p, .slice a us.length c] → S wq := fun wq ka kb => by rw [hSdef]; exact ⟨(ka 0 (by simp)).1, (ka 1 (by simp)).1, (ka 2 (by simp)).1, (ka 3 (by simp)).1, (ka 4 (by simp)).1, (ka 5 (by simp)).1, (ka 6 (by simp)).1, (ka 7 (by simp)).1, (ka 8 (by simp)).1, (ka 9 (by simp)).1, (kb 0 (by simp)).1, (kb 1 (by simp)).1, (kb 2 (by simp)).1⟩
    have hSd : ∀ wq, S wq → (fun w' => w'.cell? ⟨w.heap.size, 0, none⟩ = some (.int .i64 r.way) ∧ w'.cell? ⟨w.heap.size, 1, none⟩ = some (.int .i64 r.pal.wd) ∧ w'.cell? ⟨w.heap.size, 2, none⟩ = some (.int .i64 r.pal.dp) ∧ w'.cell? ⟨w.heap.size, 3, none⟩ = some (.int .i64 r.pal.ht) ∧ w'.cell? ⟨w.heap.size, 4, none⟩ = some (.int .i64 r.pal.gram) ∧ w'.cell? ⟨w.heap.size, 5, none⟩ = some (.int .i64 r.classes) ∧ w'.cell? ⟨w.heap.size, 6, none⟩ = some (.slice h.ap r.pairs.length h.cp) ∧ w'.cell? ⟨w.heap.size, 7, none⟩ = some (.slice h.at' r.types.length h.ct) ∧ w'.cell? ⟨w.heap.size, 8, none⟩ = some (.int .i64 r.master) ∧ w'.cell? ⟨w.heap.size, 9, none⟩ = some (.slice h.ai r.items.length h.ci) ∧ w'.cell? ⟨(w.heap.size + 1), 0, none⟩ = some (.int .i64 t) ∧ w'.cell? ⟨(w.heap.size + 1), 1, none⟩ = some (.int .i64 p) ∧ w'.cell? ⟨(w.heap.size + 1), 2, none⟩ = some (.slice a us.length c)) wq := fun wq h => by rw [hSdef] at h; exact h
    clear hSdef
    have hHeld : S v2.drew := hSmk v2.drew (unhide Kau0) (unhide Kbu0)
    refine wp_region_to (S := S) (T := []) (by kernel_rfl) hHeld (fun _ => ?_)
    generalize v2.drew = u0 at *
    refine wpTo_tk (i := 0) (v := ?_) rfl (by kernel_rfl) (Or.inl ⟨by rfl, ?_⟩) (by assumption) ?_
    rotate_left
    · intro w hSw
      have hSw := hSd _ hSw
      (try dsimp only at hSw)
      go_simp <;> with_reducible rfl
    refine wpTo_tk (i := 2) (v := ?_) rfl (by kernel_rfl) (Or.inl ⟨by rfl, ?_⟩) (by assumption) ?_
    rotate_left
    · intro w hSw
      have hSw := hSd _ hSw
      (try dsimp only at hSw)
      go_simp <;> with_reducible rfl
    try simp only [Act.put, List.getElem_toArray, List.getElem_cons_zero, List.getElem_cons_succ, List.setIfInBounds_toArray, List.set_cons_zero, List.set_cons_succ]
    refine wpTo_ready (rs := [1]) (by kernel_rfl) (by simp) ?_
    refine AllTo.cons (o := _) rfl (fun K hK => ?_) ?_
    ·
     (try simp only [List.getElem_toArray, List.getElem_cons_zero, List.getElem_cons_succ])
     go_simp
     refine (toRequest_any r h u0 (unhide Qru0) hsm).mono ?_
     rintro e u3 ⟨h1, rfl, hq, hf, hb⟩
     have Bu3 := hide ((unhide Bu0).trans (hb.mono (unhide Bu0).size))
     have Kau3 := hide (Blk.below hb Zau0 (unhide Kau0))
     have Zau3 := Nat.lt_of_lt_of_le Zau0 hb.size
     have Kbu3 := hide (Blk.below hb Zbu0 (unhide Kbu0))
     have Zbu3 := Nat.lt_of_lt_of_le Zbu0 hb.size
     have Qru3 : Hid (RdReq u3 r h) := (unhide Qru0).mono hb
     have Qgu3 : Hid (ErrT u3) := (unhide Qgu0).later hb
     have Qyu3 : Hid (Rd u3 (a) us.length us) := Rd.mono (unhide Qyu0) hb
     have Qcu3 : Hid (RdReq u3 r h1) := hq
     clear hq hf
     clear hb
     clear Bu0 Kau0 Zau0 Kbu0 Zbu0 Qru0 Qgu0 Qyu0
     clear hHeld
     go_wp2_with fail
     have hHeld := hSmk u3 (unhide Kau3) (unhide Kbu3)
     refine hK.out _ _ (fun _ => hHeld) ?_
     clear hK K
     try simp only [Act.put, List.getElem_toArray, List.getElem_cons_zero, List.getElem_cons_succ, List.setIfInBounds_toArray, List.set_cons_zero, List.set_cons_succ]
     refine wpTo_ready (rs := [3]) (by kernel_rfl) (by simp) ?_
     refine AllTo.cons (o := _) rfl (fun K hK => ?_) ?_
     ·
      (try simp only [List.getElem_toArray, List.getElem_cons_zero, List.getElem_cons_succ])
      go_simp
      refine (toCarton_any t p a c us u3 (unhide Qyu3) hn6).mono ?_
      rintro e u4 ⟨g1, rfl, ho, hb⟩
      have Bu4 := hide ((unhide Bu3).trans (hb.mono (unhide Bu3).size))
      have Kau4 := hide (Blk.below hb Zau3 (unhide Kau3))
      have Zau4 := Nat.lt_of_lt_of_le Zau3 hb.size
      have Kbu4 := hide (Blk.below hb Zbu3 (unhide Kbu3))
      have Zbu4 := Nat.lt_of_lt_of_le Zbu3 hb.size
      have Qru4 : Hid (RdReq u4 r h) := (unhide Qru3).mono hb
      have Qgu4 : Hid (ErrT u4) := (unhide Qgu3).later hb
      have Qyu4 : Hid (Rd u4 (a) us.length us) := Rd.mono (unhide Qyu3) hb
      have Qcu4 : Hid (RdReq u4 r h1) := (unhide Qcu3).mono hb
      have Qsu4 : Hid (Rd u4 (some ⟨g1, 0, none⟩) us.length us) := own_reads ho
      clear ho
      clear hb
      clear Bu3 Kau3 Zau3 Kbu3 Zbu3 Qru3 Qgu3 Qyu3 Qcu3
      clear hHeld
      go_wp2_with fail
      have hHeld := hSmk u4 (unhide Kau4) (unhide Kbu4)
      refine hK.out _ _ (fun _ => hHeld) ?_
      clear hK K
      try simp only [Act.put, List.getElem_toArray, List.getElem_cons_zero, List.getElem_cons_succ, List.setIfInBounds_toArray, List.set_cons_zero, List.set_cons_succ]
      refine wpTo_ready (rs := [4]) (by kernel_rfl) (by simp) ?_
      refine AllTo.cons (o := _) rfl (fun K hK => ?_) ?_
      ·
       (try simp only [List.getElem_toArray, List.getElem_cons_zero, List.getElem_cons_succ])
       go_simp
       refine (specGross_any r h1 t p _ us.length us.length us u4 (unhide Qcu4) hsm (unhide Qsu4) hn7).mono ?_
       rintro e u5 ⟨rfl, hb⟩
       have Bu5 := hide ((unhide Bu4).trans (hb.mono (unhide Bu4).size))
       have Kau5 := hide (Blk.below hb Zau4 (unhide Kau4))
       have Zau5 := Nat.lt_of_lt_of_le Zau4 hb.size
       have Kbu5 := hide (Blk.below hb Zbu4 (unhide Kbu4))
       have Zbu5 := Nat.lt_of_lt_of_le Zbu4 hb.size
       have Qru5 : Hid (RdReq u5 r h) := (unhide Qru4).mono hb
       have Qgu5 : Hid (ErrT u5) := (unhide Qgu4).later hb
       have Qyu5 : Hid (Rd u5 (a) us.length us) := Rd.mono (unhide Qyu4) hb
       have Qcu5 : Hid (RdReq u5 r h1) := (unhide Qcu4).mono hb
       have Qsu5 : Hid (Rd u5 (some ⟨g1, 0, none⟩) us.length us) := Rd.mono (unhide Qsu4) hb
       clear hb
       clear Bu4 Kau4 Zau4 Kbu4 Zbu4 Qru4 Qgu4 Qyu4 Qcu4 Qsu4
       clear hHeld
       go_wp2_with fail
       have hHeld := hSmk u5 (unhide Kau5) (unhide Kbu5)
       refine hK.out _ _ (fun _ => hHeld) ?_
       clear hK K
       try simp only [Act.put, List.getElem_toArray, List.getElem_cons_zero, List.getElem_cons_succ, List.setIfInBounds_toArray, List.set_cons_zero, List.set_cons_succ]
       refine wpTo_tk (i := 5) (v := ?_) rfl (by kernel_rfl) (Or.inl ⟨by rfl, ?_⟩) (by assumption) ?_
       rotate_left
       · intro w hSw
         have hSw := hSd _ hSw
         (try dsimp only at hSw)
         go_simp <;> with_reducible rfl
       try simp only [Act.put, List.getElem_toArray, List.getElem_cons_zero, List.getElem_cons_succ, List.setIfInBounds_toArray, List.set_cons_zero, List.set_cons_succ]
       refine wpTo_done (by kernel_rfl) ?_ _
       refine NoPanic.normal ?_
       go_wp2_with fail
       go_meet
       case rel => exact ⟨rfl, unhide Kau5, Zau5, unhide Kbu5, Zbu5, unhide Qru5, unhide Qgu5, unhide Qyu5, unhide Bu5⟩
      exact AllTo.nil
     exact AllTo.nil
    exact AllTo.nil
  case rest =>
    clear Bv2 Kav2 Zav2 Kbv2 Zbv2 Qrv2 Qgv2 Qyv2
    obtain ⟨rfl, ka, za, kb, zb, qr, qg, qy, hb⟩ := hcut
    obtain ⟨wB, hw8⟩ : ∃ w8 : World, w8 = wc := ⟨_, rfl⟩
    subst wc
    have BwB := hide hb
    have KawB := hide ka
    have ZawB : w.heap.size < wB.heap.size := za
    have KbwB := hide kb
    have ZbwB : (w.heap.size + 1) < wB.heap.size := zb
    have QrwB : Hid (RdReq wB r h) := qr
    have QgwB : Hid (ErrT wB) := qg
    have QywB : Hid (Rd wB (a) us.length us) := qy
    clear hb ka za kb zb qr qg qy
    obtain ⟨ca0, ca1, ca2, ca3, ca4, ca5, ca6, ca7, ca8, ca9⟩ := Blk.cs10 (unhide KawB)
    go_wp2_with fail
    refine (toRequest_any r h _ (unhide QrwB) hsm).mono ?_
    rintro e v3 ⟨h2, rfl, hq, hf, hb⟩
    have Bv3 := hide ((unhide BwB).trans (hb.mono (unhide BwB).size))
    have Kav3 := hide (Blk.below hb ZawB (unhide KawB))
    have Zav3 := Nat.lt_of_lt_of_le ZawB hb.size
    have Kbv3 := hide (Blk.below hb ZbwB (unhide KbwB))
    have Zbv3 := Nat.lt_of_lt_of_le ZbwB hb.size
    have Qrv3 : Hid (RdReq v3 r h) := (unhide QrwB).mono hb
    have Qgv3 : Hid (ErrT v3) := (unhide QgwB).later hb
    have Qyv3 : Hid (Rd v3 (a) us.length us) := Rd.mono (unhide QywB) hb
    clear hb
    clear BwB KawB ZawB KbwB ZbwB QrwB QgwB QywB
    have Qdv3 : Hid (RdReq v3 r h2) := hq
    clear hq hf ca0 ca1 ca2 ca3 ca4 ca5 ca6 ca7 ca8 ca9
    unfold reqVal
    have cb0 : v3.cell? ⟨(w.heap.size + 1), 0, none⟩ = some (.int .i64 t) := ((unhide Kbv3) 0 (by simp)).1
    have cb1 : v3.cell? ⟨(w.heap.size + 1), 1, none⟩ = some (.int .i64 p) := ((unhide Kbv3) 1 (by simp)).1
    have cb2 : v3.cell? ⟨(w.heap.size + 1), 2, none⟩ = some (.slice a us.length c) := ((unhide Kbv3) 2 (by simp)).1
    go_wp2_with fail
    clear cb0 cb1 cb2
    have Bv4 : Hid (Below w.heap.size w (v3.alloc (.cells #[.int .i64 r.way, .int .i64 r.pal.wd, .int .i64 r.pal.dp, .int .i64 r.pal.ht, .int .i64 r.pal.gram, .int .i64 r.classes, .slice h2.ap r.pairs.length h2.cp, .slice h2.at' r.types.length h2.ct, .int .i64 r.master, .slice h2.ai r.items.length h2.ci] 40))) := (unhide Bv3).alloc (unhide Bv3).size _
    have Kxv4 : Hid (Blk (v3.alloc (.cells #[.int .i64 r.way, .int .i64 r.pal.wd, .int .i64 r.pal.dp, .int .i64 r.pal.ht, .int .i64 r.pal.gram, .int .i64 r.classes, .slice h2.ap r.pairs.length h2.cp, .slice h2.at' r.types.length h2.ct, .int .i64 r.master, .slice h2.ai r.items.length h2.ci] 40)) v3.heap.size [.int .i64 r.way, .int .i64 r.pal.wd, .int .i64 r.pal.dp, .int .i64 r.pal.ht, .int .i64 r.pal.gram, .int .i64 r.classes, .slice h2.ap r.pairs.length h2.cp, .slice h2.at' r.types.length h2.ct, .int .i64 r.master, .slice h2.ai r.items.length h2.ci]) := Blk.allocAt [.int .i64 r.way, .int .i64 r.pal.wd, .int .i64 r.pal.dp, .int .i64 r.pal.ht, .int .i64 r.pal.gram, .int .i64 r.classes, .slice h2.ap r.pairs.length h2.cp, .slice h2.at' r.types.length h2.ct, .int .i64 r.master, .slice h2.ai r.items.length h2.ci] rfl
    have Zxv4 : v3.heap.size < (v3.alloc (.cells #[.int .i64 r.way, .int .i64 r.pal.wd, .int .i64 r.pal.dp, .int .i64 r.pal.ht, .int .i64 r.pal.gram, .int .i64 r.classes, .slice h2.ap r.pairs.length h2.cp, .slice h2.at' r.types.length h2.ct, .int .i64 r.master, .slice h2.ai r.items.length h2.ci] 40)).heap.size := by simp
    have Gx : w.heap.size ≤ v3.heap.size := (unhide Bv3).size
    have Kav4 : Hid (Blk (v3.alloc (.cells #[.int .i64 r.way, .int .i64 r.pal.wd, .int .i64 r.pal.dp, .int .i64 r.pal.ht, .int .i64 r.pal.gram, .int .i64 r.classes, .slice h2.ap r.pairs.length h2.cp, .slice h2.at' r.types.length h2.ct, .int .i64 r.master, .slice h2.ai r.items.length h2.ci] 40)) w.heap.size [.int .i64 r.way, .int .i64 r.pal.wd, .int .i64 r.pal.dp, .int .i64 r.pal.ht, .int .i64 r.pal.gram, .int .i64 r.classes, .slice h.ap r.pairs.length h.cp, .slice h.at' r.types.length h.ct, .int .i64 r.master, .slice h.ai r.items.length h.ci]) := (unhide Kav3).allocOld Zav3 _
    have Zav4 : w.heap.size < (v3.alloc (.cells #[.int .i64 r.way, .int .i64 r.pal.wd, .int .i64 r.pal.dp, .int .i64 r.pal.ht, .int .i64 r.pal.gram, .int .i64 r.classes, .slice h2.ap r.pairs.length h2.cp, .slice h2.at' r.types.length h2.ct, .int .i64 r.master, .slice h2.ai r.items.length h2.ci] 40)).heap.size := by simp <;> omega
    have Nqax : w.heap.size ≠ v3.heap.size := Nat.ne_of_lt Zav3
    have Nqxa : v3.heap.size ≠ w.heap.size := Ne.symm Nqax
    have Kbv4 : Hid (Blk (v3.alloc (.cells #[.int .i64 r.way, .int .i64 r.pal.wd, .int .i64 r.pal.dp, .int .i64 r.pal.ht, .int .i64 r.pal.gram, .int .i64 r.classes, .slice h2.ap r.pairs.length h2.cp, .slice h2.at' r.types.length h2.ct, .int .i64 r.master, .slice h2.ai r.items.length h2.ci] 40)) (w.heap.size + 1) [.int .i64 t, .int .i64 p, .slice a us.length c]) := (unhide Kbv3).allocOld Zbv3 _
    have Zbv4 : (w.heap.size + 1) < (v3.alloc (.cells #[.int .i64 r.way, .int .i64 r.pal.wd, .int .i64 r.pal.dp, .int .i64 r.pal.ht, .int .i64 r.pal.gram, .int .i64 r.classes, .slice h2.ap r.pairs.length h2.cp, .slice h2.at' r.types.length h2.ct, .int .i64 r.master, .slice h2.ai r.items.length h2.ci] 40)).heap.size := by simp <;> omega
    have Nqbx : (w.heap.size + 1) ≠ v3.heap.size := Nat.ne_of_lt Zbv3
    have Nqxb : v3.heap.size ≠ (w.heap.size + 1) := Ne.symm Nqbx
    have Qrv4 : Hid (RdReq (v3.alloc (.cells #[.int .i64 r.way, .int .i64 r.pal.wd, .int .i64 r.pal.dp, .int .i64 r.pal.ht, .int .i64 r.pal.gram, .int .i64 r.classes, .slice h2.ap r.pairs.length h2.cp, .slice h2.at' r.types.length h2.ct, .int .i64 r.master, .slice h2.ai r.items.length h2.ci] 40)) r h) := (unhide Qrv3).mono ((Below.refl _ _).alloc (Nat.le_refl _) _)
    have Qgv4 : Hid (ErrT (v3.alloc (.cells #[.int .i64 r.way, .int .i64 r.pal.wd, .int .i64 r.pal.dp, .int .i64 r.pal.ht, .int .i64 r.pal.gram, .int .i64 r.classes, .slice h2.ap r.pairs.length h2.cp, .slice h2.at' r.types.length h2.ct, .int .i64 r.master, .slice h2.ai r.items.length h2.ci] 40))) := (unhide Qgv3).later ((Below.refl _ _).alloc (Nat.le_refl _) _)
    have Qyv4 : Hid (Rd (v3.alloc (.cells #[.int .i64 r.way, .int .i64 r.pal.wd, .int .i64 r.pal.dp, .int .i64 r.pal.ht, .int .i64 r.pal.gram, .int .i64 r.classes, .slice h2.ap r.pairs.length h2.cp, .slice h2.at' r.types.length h2.ct, .int .i64 r.master, .slice h2.ai r.items.length h2.ci] 40)) (a) us.length us) := Rd.mono (unhide Qyv3) ((Below.refl _ _).alloc (Nat.le_refl _) _)
    have Qdv4 : Hid (RdReq (v3.alloc (.cells #[.int .i64 r.way, .int .i64 r.pal.wd, .int .i64 r.pal.dp, .int .i64 r.pal.ht, .int .i64 r.pal.gram, .int .i64 r.classes, .slice h2.ap r.pairs.length h2.cp, .slice h2.at' r.types.length h2.ct, .int .i64 r.master, .slice h2.ai r.items.length h2.ci] 40)) r h2) := (unhide Qdv3).mono ((Below.refl _ _).alloc (Nat.le_refl _) _)
    clear Bv3 Kav3 Zav3 Kbv3 Zbv3 Qrv3 Qgv3 Qyv3 Qdv3
    generalize (v3.alloc (.cells #[.int .i64 r.way, .int .i64 r.pal.wd, .int .i64 r.pal.dp, .int .i64 r.pal.ht, .int .i64 r.pal.gram, .int .i64 r.classes, .slice h2.ap r.pairs.length h2.cp, .slice h2.at' r.types.length h2.ct, .int .i64 r.master, .slice h2.ai r.items.length h2.ci] 40)) = v4 at *
    refine (toCarton_any t p a c us _ (unhide Qyv4) hn6).mono ?_
    rintro e v5 ⟨g2, rfl, ho, hb⟩
    have Bv5 := hide ((unhide Bv4).trans (hb.mono (unhide Bv4).size))
    have Kav5 := hide (Blk.below hb Zav4 (unhide Kav4))
    have Zav5 := Nat.lt_of_lt_of_le Zav4 hb.size
    have Kbv5 := hide (Blk.below hb Zbv4 (unhide Kbv4))
    have Zbv5 := Nat.lt_of_lt_of_le Zbv4 hb.size
    have Kxv5 := hide (Blk.below hb Zxv4 (unhide Kxv4))
    have Zxv5 := Nat.lt_of_lt_of_le Zxv4 hb.size
    have Qrv5 : Hid (RdReq v5 r h) := (unhide Qrv4).mono hb
    have Qgv5 : Hid (ErrT v5) := (unhide Qgv4).later hb
    have Qyv5 : Hid (Rd v5 (a) us.length us) := Rd.mono (unhide Qyv4) hb
    have Qdv5 : Hid (RdReq v5 r h2) := (unhide Qdv4).mono hb
    clear hb
    clear Bv4 Kav4 Zav4 Kbv4 Zbv4 Kxv4 Zxv4 Qrv4 Qgv4 Qyv4 Qdv4
    have Qvv5 : Hid (Rd v5 (some ⟨g2, 0, none⟩) us.length us) := own_reads ho
    clear ho
    obtain ⟨cx0, cx1, cx2, cx3, cx4, cx5, cx6, cx7, cx8, cx9⟩ := Blk.cs10 (unhide Kxv5)
    go_wp2_with fail
    clear cx0 cx1 cx2 cx3 cx4 cx5 cx6 cx7 cx8 cx9
    have Bv6 : Hid (Below w.heap.size w (v5.alloc (.cells #[.int .i64 t, .int .i64 p, .slice (some ⟨g2, 0, none⟩) us.length us.length] 42))) := (unhide Bv5).alloc (unhide Bv5).size _
    have Kzv6 : Hid (Blk (v5.alloc (.cells #[.int .i64 t, .int .i64 p, .slice (some ⟨g2, 0, none⟩) us.length us.length] 42)) v5.heap.size [.int .i64 t, .int .i64 p, .slice (some ⟨g2, 0, none⟩) us.length us.length]) := Blk.allocAt [.int .i64 t, .int .i64 p, .slice (some ⟨g2, 0, none⟩) us.length us.length] rfl
    have Zzv6 : v5.heap.size < (v5.alloc (.cells #[.int .i64 t, .int .i64 p, .slice (some ⟨g2, 0, none⟩) us.length us.length] 42)).heap.size := by simp
    have Gz : w.heap.size ≤ v5.heap.size := (unhide Bv5).size
    have Kav6 : Hid (Blk (v5.alloc (.cells #[.int .i64 t, .int .i64 p, .slice (some ⟨g2, 0, none⟩) us.length us.length] 42)) w.heap.size [.int .i64 r.way, .int .i64 r.pal.wd, .int .i64 r.pal.dp, .int .i64 r.pal.ht, .int .i64 r.pal.gram, .int .i64 r.classes, .slice h.ap r.pairs.length h.cp, .slice h.at' r.types.length h.ct, .int .i64 r.master, .slice h.ai r.items.length h.ci]) := (unhide Kav5).allocOld Zav5 _
    have Zav6 : w.heap.size < (v5.alloc (.cells #[.int .i64 t, .int .i64 p, .slice (some ⟨g2, 0, none⟩) us.length us.length] 42)).heap.size := by simp <;> omega
    have Nqaz : w.heap.size ≠ v5.heap.size := Nat.ne_of_lt Zav5
    have Nqza : v5.heap.size ≠ w.heap.size := Ne.symm Nqaz
    have Kbv6 : Hid (Blk (v5.alloc (.cells #[.int .i64 t, .int .i64 p, .slice (some ⟨g2, 0, none⟩) us.length us.length] 42)) (w.heap.size + 1) [.int .i64 t, .int .i64 p, .slice a us.length c]) := (unhide Kbv5).allocOld Zbv5 _
    have Zbv6 : (w.heap.size + 1) < (v5.alloc (.cells #[.int .i64 t, .int .i64 p, .slice (some ⟨g2, 0, none⟩) us.length us.length] 42)).heap.size := by simp <;> omega
    have Nqbz : (w.heap.size + 1) ≠ v5.heap.size := Nat.ne_of_lt Zbv5
    have Nqzb : v5.heap.size ≠ (w.heap.size + 1) := Ne.symm Nqbz
    have Kxv6 : Hid (Blk (v5.alloc (.cells #[.int .i64 t, .int .i64 p, .slice (some ⟨g2, 0, none⟩) us.length us.length] 42)) v3.heap.size [.int .i64 r.way, .int .i64 r.pal.wd, .int .i64 r.pal.dp, .int .i64 r.pal.ht, .int .i64 r.pal.gram, .int .i64 r.classes, .slice h2.ap r.pairs.length h2.cp, .slice h2.at' r.types.length h2.ct, .int .i64 r.master, .slice h2.ai r.items.length h2.ci]) := (unhide Kxv5).allocOld Zxv5 _
    have Zxv6 : v3.heap.size < (v5.alloc (.cells #[.int .i64 t, .int .i64 p, .slice (some ⟨g2, 0, none⟩) us.length us.length] 42)).heap.size := by simp <;> omega
    have Nqxz : v3.heap.size ≠ v5.heap.size := Nat.ne_of_lt Zxv5
    have Nqzx : v5.heap.size ≠ v3.heap.size := Ne.symm Nqxz
    have Qrv6 : Hid (RdReq (v5.alloc (.cells #[.int .i64 t, .int .i64 p, .slice (some ⟨g2, 0, none⟩) us.length us.length] 42)) r h) := (unhide Qrv5).mono ((Below.refl _ _).alloc (Nat.le_refl _) _)
    have Qgv6 : Hid (ErrT (v5.alloc (.cells #[.int .i64 t, .int .i64 p, .slice (some ⟨g2, 0, none⟩) us.length us.length] 42))) := (unhide Qgv5).later ((Below.refl _ _).alloc (Nat.le_refl _) _)
    have Qyv6 : Hid (Rd (v5.alloc (.cells #[.int .i64 t, .int .i64 p, .slice (some ⟨g2, 0, none⟩) us.length us.length] 42)) (a) us.length us) := Rd.mono (unhide Qyv5) ((Below.refl _ _).alloc (Nat.le_refl _) _)
    have Qdv6 : Hid (RdReq (v5.alloc (.cells #[.int .i64 t, .int .i64 p, .slice (some ⟨g2, 0, none⟩) us.length us.length] 42)) r h2) := (unhide Qdv5).mono ((Below.refl _ _).alloc (Nat.le_refl _) _)
    have Qvv6 : Hid (Rd (v5.alloc (.cells #[.int .i64 t, .int .i64 p, .slice (some ⟨g2, 0, none⟩) us.length us.length] 42)) (some ⟨g2, 0, none⟩) us.length us) := Rd.mono (unhide Qvv5) ((Below.refl _ _).alloc (Nat.le_refl _) _)
    clear Bv5 Kav5 Zav5 Kbv5 Zbv5 Kxv5 Zxv5 Qrv5 Qgv5 Qyv5 Qdv5 Qvv5
    generalize (v5.alloc (.cells #[.int .i64 t, .int .i64 p, .slice (some ⟨g2, 0, none⟩) us.length us.length] 42)) = v6 at *
    refine (gross_any r h2 t p _ us.length us.length us _ (unhide Qdv6) hsm (unhide Qgv6) (unhide Qvv6) hn7).mono ?_
    rintro e v7 ⟨rfl, hb⟩
    have Bv7 := hide ((unhide Bv6).trans (hb.mono (unhide Bv6).size))
    have Kav7 := hide (Blk.below hb Zav6 (unhide Kav6))
    have Zav7 := Nat.lt_of_lt_of_le Zav6 hb.size
    have Kbv7 := hide (Blk.below hb Zbv6 (unhide Kbv6))
    have Zbv7 := Nat.lt_of_lt_of_le Zbv6 hb.size
    have Kxv7 := hide (Blk.below hb Zxv6 (unhide Kxv6))
    have Zxv7 := Nat.lt_of_lt_of_le Zxv6 hb.size
    have Kzv7 := hide (Blk.below hb Zzv6 (unhide Kzv6))
    have Zzv7 := Nat.lt_of_lt_of_le Zzv6 hb.size
    have Qrv7 : Hid (RdReq v7 r h) := (unhide Qrv6).mono hb
    have Qgv7 : Hid (ErrT v7) := (unhide Qgv6).later hb
    have Qyv7 : Hid (Rd v7 (a) us.length us) := Rd.mono (unhide Qyv6) hb
    have Qdv7 : Hid (RdReq v7 r h2) := (unhide Qdv6).mono hb
    have Qvv7 : Hid (Rd v7 (some ⟨g2, 0, none⟩) us.length us) := Rd.mono (unhide Qvv6) hb
    clear hb
    clear Bv6 Kav6 Zav6 Kbv6 Zbv6 Kxv6 Zxv6 Kzv6 Zzv6 Qrv6 Qgv6 Qyv6 Qdv6 Qvv6
    go_upto_region 14 with fail
    go_cut [39] (fun v wc => v = .bool false ∧ Blk wc w.heap.size [.int .i64 r.way, .int .i64 r.pal.wd, .int .i64 r.pal.dp, .int .i64 r.pal.ht, .int .i64 r.pal.gram, .int .i64 r.classes, .slice h.ap r.pairs.length h.cp, .slice h.at' r.types.length h.ct, .int .i64 r.master, .slice h.ai r.items.length h.ci] ∧ w.heap.size < wc.heap.size ∧ Blk wc (w.heap.size + 1) [.int .i64 t, .int .i64 p, .slice a us.length c] ∧ (w.heap.size + 1) < wc.heap.size ∧ Blk wc v3.heap.size [.int .i64 r.way, .int .i64 r.pal.wd, .int .i64 r.pal.dp, .int .i64 r.pal.ht, .int .i64 r.pal.gram, .int .i64 r.classes, .slice h2.ap r.pairs.length h2.cp, .slice h2.at' r.types.length h2.ct, .int .i64 r.master, .slice h2.ai r.items.length h2.ci] ∧ v3.heap.size < wc.heap.size ∧ Blk wc v5.heap.size [.int .i64 t, .int .i64 p, .slice (some ⟨g2, 0, none⟩) us.length us.length] ∧ v5.heap.size < wc.heap.size ∧ RdReq wc r h ∧ ErrT wc ∧ Rd wc (a) us.length us ∧ RdReq wc r h2 ∧ Rd wc (some ⟨g2, 0, none⟩) us.length us ∧ Below w.heap.size w wc)
    case first =>
      refine wp_region_noPanic ?_
      have Bu0 : Hid (Below w.heap.size w v7.drew) := (unhide Bv7).drew
      have Qru0 : Hid (RdReq v7.drew r h) := (unhide Qrv7).mono (Below.refl _ _).drew
      have Qgu0 : Hid (ErrT v7.drew) := (unhide Qgv7).later (Below.refl _ _).drew
      have Qyu0 : Hid (Rd v7.drew (a) us.length us) := Rd.mono (unhide Qyv7) (Below.refl _ _).drew
      have Qdu0 : Hid (RdReq v7.drew r h2) := (unhide Qdv7).mono (Below.refl _ _).drew
      have Qvu0 : Hid (Rd v7.drew (some ⟨g2, 0, none⟩) us.length us) := Rd.mono (unhide Qvv7) (Below.refl _ _).drew
      have Kau0 : Hid (Blk v7.drew w.heap.size [.int .i64 r.way, .int .i64 r.pal.wd, .int .i64 r.pal.dp, .int .i64 r.pal.ht, .int .i64 r.pal.gram, .int .i64 r.classes, .slice h.ap r.pairs.length h.cp, .slice h.at' r.types.length h.ct, .int .i64 r.master, .slice h.ai r.items.length h.ci]) := unhide Kav7
      have Zau0 : w.heap.size < v7.drew.heap.size := Zav7
      have Kbu0 : Hid (Blk v7.drew (w.heap.size + 1) [.int .i64 t, .int .i64 p, .slice a us.length c]) := unhide Kbv7
      have Zbu0 : (w.heap.size + 1) < v7.drew.heap.size := Zbv7
      have Kxu0 : Hid (Blk v7.drew v3.heap.size [.int .i64 r.way, .int .i64 r.pal.wd, .int .i64 r.pal.dp, .int .i64 r.pal.ht, .int .i64 r.pal.gram, .int .i64 r.classes, .slice h2.ap r.pairs.length h2.cp, .slice h2.at' r.types.length h2.ct, .int .i64 r.master, .slice h2.ai r.items.length h2.ci]) := unhide Kxv7
      have Zxu0 : v3.heap.size < v7.drew.heap.size := Zxv7
      have Kzu0 : Hid (Blk v7.drew v5.heap.size [.int .i64 t, .int .i64 p, .slice (some ⟨g2, 0, none⟩) us.length us.length]) := unhide Kzv7
      have Zzu0 : v5.heap.size < v7.drew.heap.size := Zzv7
      obtain ⟨S, hSdef⟩ : ∃ S : World → Prop, S = (fun w' => w'.cell? ⟨v3.heap.size, 0, none⟩ = some (.int .i64 r.way) ∧ w'.cell? ⟨v3.heap.size, 1, none⟩ = some (.int .i64 r.pal.wd) ∧ w'.cell? ⟨v3.heap.size, 2, none⟩ = some (.int .i64 r.pal.dp) ∧ w'.cell? ⟨v3.heap.size, 3, none⟩ = some (.int .i64 r.pal.ht) ∧ w'.cell? ⟨v3.heap.size, 4, none⟩ = some (.int .i64 r.pal.gram) ∧ w'.cell? ⟨v3.heap.size, 5, none⟩ = some (.int .i64 r.classes) ∧ w'.cell? ⟨v3.heap.size, 6, none⟩ = some (.slice h2.ap r.pairs.length h2.cp) ∧ w'.cell? ⟨v3.heap.size, 7, none⟩ = some (.slice h2.at' r.types.length h2.ct) ∧ w'.cell? ⟨v3.heap.size, 8, none⟩ = some (.int .i64 r.master) ∧ w'.cell? ⟨v3.heap.size, 9, none⟩ = some (.slice h2.ai r.items.length h2.ci) ∧ w'.cell? ⟨w.heap.size, 0, none⟩ = some (.int .i64 r.way) ∧ w'.cell? ⟨w.heap.size, 1, none⟩ = some (.int .i64 r.pal.wd) ∧ w'.cell? ⟨w.heap.size, 2, none⟩ = some (.int .i64 r.pal.dp) ∧ w'.cell? ⟨w.heap.size, 3, none⟩ = some (.int .i64 r.pal.ht) ∧ w'.cell? ⟨w.heap.size, 4, none⟩ = some (.int .i64 r.pal.gram) ∧ w'.cell? ⟨w.heap.size, 5, none⟩ = some (.int .i64 r.classes) ∧ w'.cell? ⟨w.heap.size, 6, none⟩ = some (.slice h.ap r.pairs.length h.cp) ∧ w'.cell? ⟨w.heap.size, 7, none⟩ = some (.slice h.at' r.types.length h.ct) ∧ w'.cell? ⟨w.heap.size, 8, none⟩ = some (.int .i64 r.master) ∧ w'.cell? ⟨w.heap.size, 9, none⟩ = some (.slice h.ai r.items.length h.ci)) := ⟨_, rfl⟩
      have hSmk : ∀ wq, Blk wq v3.heap.size [.int .i64 r.way, .int .i64 r.pal.wd, .int .i64 r.pal.dp, .int .i64 r.pal.ht, .int .i64 r.pal.gram, .int .i64 r.classes, .slice h2.ap r.pairs.length h2.cp, .slice h2.at' r.types.length h2.ct, .int .i64 r.master, .slice h2.ai r.items.length h2.ci] → Blk wq w.heap.size [.int .i64 r.way, .int .i64 r.pal.wd, .int .i64 r.pal.dp, .int .i64 r.pal.ht, .int .i64 r.pal.gram, .int .i64 r.classes, .slice h.ap r.pairs.length h.cp, .slice h.at' r.types.length h.ct, .int .i64 r.master, .slice h.ai r.items.length h.ci] → S wq := fun wq kx ka => by rw [hSdef]; exact ⟨(kx 0 (by simp)).1, (kx 1 (by simp)).1, (kx 2 (by simp)).1, (kx 3 (by simp)).1, (kx 4 (by simp)).1, (kx 5 (by simp)).1, (kx 6 (by simp)).1, (kx 7 (by simp)).1, (kx 8 (by simp)).1, (kx 9 (by simp)).1, (ka 0 (by simp)).1, (ka 1 (by simp)).1, (ka 2 (by simp)).1, (ka 3 (by simp)).1, (ka 4 (by simp)).1, (ka 5 (by simp)).1, (ka 6 (by simp)).1, (ka 7 (by simp)).1, (ka 8 (by simp)).1, (ka 9 (by simp)).1⟩
      have hSd : ∀ wq, S wq → (fun w' => w'.cell? ⟨v3.heap.size, 0, none⟩ = some (.int .i64 r.way) ∧ w'.cell? ⟨v3.heap.size, 1, none⟩ = some (.int .i64 r.pal.wd) ∧ w'.cell? ⟨v3.heap.size, 2, none⟩ = some (.int .i64 r.pal.dp) ∧ w'.cell? ⟨v3.heap.size, 3, none⟩ = some (.int .i64 r.pal.ht) ∧ w'.cell? ⟨v3.heap.size, 4, none⟩ = some (.int .i64 r.pal.gram) ∧ w'.cell? ⟨v3.heap.size, 5, none⟩ = some (.int .i64 r.classes) ∧ w'.cell? ⟨v3.heap.size, 6, none⟩ = some (.slice h2.ap r.pairs.length h2.cp) ∧ w'.cell? ⟨v3.heap.size, 7, none⟩ = some (.slice h2.at' r.types.length h2.ct) ∧ w'.cell? ⟨v3.heap.size, 8, none⟩ = some (.int .i64 r.master) ∧ w'.cell? ⟨v3.heap.size, 9, none⟩ = some (.slice h2.ai r.items.length h2.ci) ∧ w'.cell? ⟨w.heap.size, 0, none⟩ = some (.int .i64 r.way) ∧ w'.cell? ⟨w.heap.size, 1, none⟩ = some (.int .i64 r.pal.wd) ∧ w'.cell? ⟨w.heap.size, 2, none⟩ = some (.int .i64 r.pal.dp) ∧ w'.cell? ⟨w.heap.size, 3, none⟩ = some (.int .i64 r.pal.ht) ∧ w'.cell? ⟨w.heap.size, 4, none⟩ = some (.int .i64 r.pal.gram) ∧ w'.cell? ⟨w.heap.size, 5, none⟩ = some (.int .i64 r.classes) ∧ w'.cell? ⟨w.heap.size, 6, none⟩ = some (.slice h.ap r.pairs.length h.cp) ∧ w'.cell? ⟨w.heap.size, 7, none⟩ = some (.slice h.at' r.types.length h.ct) ∧ w'.cell? ⟨w.heap.size, 8, none⟩ = some (.int .i64 r.master) ∧ w'.cell? ⟨w.heap.size, 9, none⟩ = some (.slice h.ai r.items.length h.ci)) wq := fun wq h => by rw [hSdef] at h; exact h
      clear hSdef
      have hHeld : S v7.drew := hSmk v7.drew (unhide Kxu0) (unhide Kau0)
      refine wp_region_to (S := S) (T := []) (by kernel_rfl) hHeld (fun _ => ?_)
      generalize v7.drew = u0 at *
      refine wpTo_tk (i := 0) (v := ?_) rfl (by kernel_rfl) (Or.inl ⟨by rfl, ?_⟩) (by assumption) ?_
      rotate_left
      · intro w hSw
        have hSw := hSd _ hSw
        (try dsimp only at hSw)
        go_simp <;> with_reducible rfl
      refine wpTo_tk (i := 1) (v := ?_) rfl (by kernel_rfl) (Or.inl ⟨by rfl, ?_⟩) (by assumption) ?_
      rotate_left
      · intro w hSw
        have hSw := hSd _ hSw
        (try dsimp only at hSw)
        go_simp <;> with_reducible rfl
      try simp only [Act.put, List.getElem_toArray, List.getElem_cons_zero, List.getElem_cons_succ, List.setIfInBounds_toArray, List.set_cons_zero, List.set_cons_succ]
      refine wpTo_ready (rs := [2]) (by kernel_rfl) (by simp) ?_
      refine AllTo.cons (o := _) rfl (fun K hK => ?_) ?_
      ·
       (try simp only [List.getElem_toArray, List.getElem_cons_zero, List.getElem_cons_succ])
       go_simp
       refine (toRequest_any r h u0 (unhide Qru0) hsm).mono ?_
       rintro e u8 ⟨h1, rfl, hq, hf, hb⟩
       have Bu8 := hide ((unhide Bu0).trans (hb.mono (unhide Bu0).size))
       have Kau8 := hide (Blk.below hb Zau0 (unhide Kau0))
       have Zau8 := Nat.lt_of_lt_of_le Zau0 hb.size
       have Kbu8 := hide (Blk.below hb Zbu0 (unhide Kbu0))
       have Zbu8 := Nat.lt_of_lt_of_le Zbu0 hb.size
       have Kxu8 := hide (Blk.below hb Zxu0 (unhide Kxu0))
       have Zxu8 := Nat.lt_of_lt_of_le Zxu0 hb.size
       have Kzu8 := hide (Blk.below hb Zzu0 (unhide Kzu0))
       have Zzu8 := Nat.lt_of_lt_of_le Zzu0 hb.size
       have Qru8 : Hid (RdReq u8 r h) := (unhide Qru0).mono hb
       have Qgu8 : Hid (ErrT u8) := (unhide Qgu0).later hb
       have Qyu8 : Hid (Rd u8 (a) us.length us) := Rd.mono (unhide Qyu0) hb
       have Qdu8 : Hid (RdReq u8 r h2) := (unhide Qdu0).mono hb
       have Qvu8 : Hid (Rd u8 (some ⟨g2, 0, none⟩) us.length us) := Rd.mono (unhide Qvu0) hb
       have Qcu8 : Hid (RdReq u8 r h1) := hq
       clear hq hf
       clear hb
       clear Bu0 Kau0 Zau0 Kbu0 Zbu0 Kxu0 Zxu0 Kzu0 Zzu0 Qru0 Qgu0 Qyu0 Qdu0 Qvu0
       clear hHeld
       go_wp2_with fail
       have hHeld := hSmk u8 (unhide Kxu8) (unhide Kau8)
       refine hK.out _ _ (fun _ => hHeld) ?_
       clear hK K
       try simp only [Act.put, List.getElem_toArray, List.getElem_cons_zero, List.getElem_cons_succ, List.setIfInBounds_toArray, List.set_cons_zero, List.set_cons_succ]
       refine wpTo_ready (rs := [3]) (by kernel_rfl) (by simp) ?_
       refine AllTo.cons (o := _) rfl (fun K hK => ?_) ?_
       ·
        (try simp only [List.getElem_toArray, List.getElem_cons_zero, List.getElem_cons_succ])
        go_simp
        refine (eqRequest_same r h2 h1 u8 (unhide Qdu8) (unhide Qcu8) hsm).mono ?_
        rintro e u9 ⟨rfl, hb⟩
        have Bu9 := hide ((unhide Bu8).trans (hb.mono (unhide Bu8).size))
        have Kau9 := hide (Blk.below hb Zau8 (unhide Kau8))
        have Zau9 := Nat.lt_of_lt_of_le Zau8 hb.size
        have Kbu9 := hide (Blk.below hb Zbu8 (unhide Kbu8))
        have Zbu9 := Nat.lt_of_lt_of_le Zbu8 hb.size
        have Kxu9 := hide (Blk.below hb Zxu8 (unhide Kxu8))
        have Zxu9 := Nat.lt_of_lt_of_le Zxu8 hb.size
        have Kzu9 := hide (Blk.below hb Zzu8 (unhide Kzu8))
        have Zzu9 := Nat.lt_of_lt_of_le Zzu8 hb.size
        have Qru9 : Hid (RdReq u9 r h) := (unhide Qru8).mono hb
        have Qgu9 : Hid (ErrT u9) := (unhide Qgu8).later hb
        have Qyu9 : Hid (Rd u9 (a) us.length us) := Rd.mono (unhide Qyu8) hb
        have Qdu9 : Hid (RdReq u9 r h2) := (unhide Qdu8).mono hb
        have Qvu9 : Hid (Rd u9 (some ⟨g2, 0, none⟩) us.length us) := Rd.mono (unhide Qvu8) hb
        have Qcu9 : Hid (RdReq u9 r h1) := (unhide Qcu8).mono hb
        clear hb
        clear Bu8 Kau8 Zau8 Kbu8 Zbu8 Kxu8 Zxu8 Kzu8 Zzu8 Qru8 Qgu8 Qyu8 Qdu8 Qvu8 Qcu8
        clear hHeld
        go_wp2_with fail
        have hHeld := hSmk u9 (unhide Kxu9) (unhide Kau9)
        refine hK.out _ _ (fun _ => hHeld) ?_
        clear hK K
        try simp only [Act.put, List.getElem_toArray, List.getElem_cons_zero, List.getElem_cons_succ, List.setIfInBounds_toArray, List.set_cons_zero, List.set_cons_succ]
        refine wpTo_tk (i := 4) (v := ?_) rfl (by kernel_rfl) (Or.inl ⟨by rfl, ?_⟩) (by assumption) ?_
        rotate_left
        · intro w hSw
          have hSw := hSd _ hSw
          (try dsimp only at hSw)
          go_simp <;> with_reducible rfl
        try simp only [Act.put, List.getElem_toArray, List.getElem_cons_zero, List.getElem_cons_succ, List.setIfInBounds_toArray, List.set_cons_zero, List.set_cons_succ]
        refine wpTo_done (by kernel_rfl) ?_ _
        refine NoPanic.normal ?_
        go_wp2_with fail
        go_meet
        case rel => exact ⟨rfl, unhide Kau9, Zau9, unhide Kbu9, Zbu9, unhide Kxu9, Zxu9, unhide Kzu9, Zzu9, unhide Qru9, unhide Qgu9, unhide Qyu9, unhide Qdu9, unhide Qvu9, unhide Bu9⟩
       exact AllTo.nil
      exact AllTo.nil
    case rest =>
      clear Bv7 Kav7 Zav7 Kbv7 Zbv7 Kxv7 Zxv7 Kzv7 Zzv7 Qrv7 Qgv7 Qyv7 Qdv7 Qvv7
      obtain ⟨rfl, ka, za, kb, zb, kx, zx, kz, zz, qr, qg, qy, qd, qv, hb⟩ := hcut
      obtain ⟨wC, hw8⟩ : ∃ w8 : World, w8 = wc := ⟨_, rfl⟩
      subst wc
      have BwC := hide hb
      have KawC := hide ka
      have ZawC : w.heap.size < wC.heap.size := za
      have KbwC := hide kb
      have ZbwC : (w.heap.size + 1) < wC.heap.size := zb
      have KxwC := hide kx
      have ZxwC : v3.heap.size < wC.heap.size := zx
      have KzwC := hide kz
      have ZzwC : v5.heap.size < wC.heap.size := zz
      have QrwC : Hid (RdReq wC r h) := qr
      have QgwC : Hid (ErrT wC) := qg
      have QywC : Hid (Rd wC (a) us.length us) := qy
      have QdwC : Hid (RdReq wC r h2) := qd
      have QvwC : Hid (Rd wC (some ⟨g2, 0, none⟩) us.length us) := qv
      clear hb ka za kb zb kx zx kz zz qr qg qy qd qv
      go_upto_region 16 with fail
      go_cut [44] (fun v wc => v = .bool false ∧ Blk wc w.heap.size [.int .i64 r.way, .int .i64 r.pal.wd, .int .i64 r.pal.dp, .int .i64 r.pal.ht, .int .i64 r.pal.gram, .int .i64 r.classes, .slice h.ap r.pairs.length h.cp, .slice h.at' r.types.length h.ct, .int .i64 r.master, .slice h.ai r.items.length h.ci] ∧ w.heap.size < wc.heap.size ∧ Blk wc (w.heap.size + 1) [.int .i64 t, .int .i64 p, .slice a us.length c] ∧ (w.heap.size + 1) < wc.heap.size ∧ Blk wc v3.heap.size [.int .i64 r.way, .int .i64 r.pal.wd, .int .i64 r.pal.dp, .int .i64 r.pal.ht, .int .i64 r.pal.gram, .int .i64 r.classes, .slice h2.ap r.pairs.length h2.cp, .slice h2.at' r.types.length h2.ct, .int .i64 r.master, .slice h2.ai r.items.length h2.ci] ∧ v3.heap.size < wc.heap.size ∧ Blk wc v5.heap.size [.int .i64 t, .int .i64 p, .slice (some ⟨g2, 0, none⟩) us.length us.length] ∧ v5.heap.size < wc.heap.size ∧ RdReq wc r h ∧ ErrT wc ∧ Rd wc (a) us.length us ∧ RdReq wc r h2 ∧ Rd wc (some ⟨g2, 0, none⟩) us.length us ∧ Below w.heap.size w wc)
      case first =>
        refine wp_region_noPanic ?_
        have Bu0 : Hid (Below w.heap.size w wC.drew) := (unhide BwC).drew
        have Qru0 : Hid (RdReq wC.drew r h) := (unhide QrwC).mono (Below.refl _ _).drew
        have Qgu0 : Hid (ErrT wC.drew) := (unhide QgwC).later (Below.refl _ _).drew
        have Qyu0 : Hid (Rd wC.drew (a) us.length us) := Rd.mono (unhide QywC) (Below.refl _ _).drew
        have Qdu0 : Hid (RdReq wC.drew r h2) := (unhide QdwC).mono (Below.refl _ _).drew
        have Qvu0 : Hid (Rd wC.drew (some ⟨g2, 0, none⟩) us.length us) := Rd.mono (unhide QvwC) (Below.refl _ _).drew
        have Kau0 : Hid (Blk wC.drew w.heap.size [.int .i64 r.way, .int .i64 r.pal.wd, .int .i64 r.pal.dp, .int .i64 r.pal.ht, .int .i64 r.pal.gram, .int .i64 r.classes, .slice h.ap r.pairs.length h.cp, .slice h.at' r.types.length h.ct, .int .i64 r.master, .slice h.ai r.items.length h.ci]) := unhide KawC
        have Zau0 : w.heap.size < wC.drew.heap.size := ZawC
        have Kbu0 : Hid (Blk wC.drew (w.heap.size + 1) [.int .i64 t, .int .i64 p, .slice a us.length c]) := unhide KbwC
        have Zbu0 : (w.heap.size + 1) < wC.drew.heap.size := ZbwC
        have Kxu0 : Hid (Blk wC.drew v3.heap.size [.int .i64 r.way, .int .i64 r.pal.wd, .int .i64 r.pal.dp, .int .i64 r.pal.ht, .int .i64 r.pal.gram, .int .i64 r.classes, .slice h2.ap r.pairs.length h2.cp, .slice h2.at' r.types.length h2.ct, .int .i64 r.master, .slice h2.ai r.items.length h2.ci]) := unhide KxwC
        have Zxu0 : v3.heap.size < wC.drew.heap.size := ZxwC
        have Kzu0 : Hid (Blk wC.drew v5.heap.size [.int .i64 t, .int .i64 p, .slice (some ⟨g2, 0, none⟩) us.length us.length]) := unhide KzwC
        have Zzu0 : v5.heap.size < wC.drew.heap.size := ZzwC
        obtain ⟨S, hSdef⟩ : ∃ S : World → Prop, S = (fun w' => w'.cell? ⟨v5.heap.size, 0, none⟩ = some (.int .i64 t) ∧ w'.cell? ⟨v5.heap.size, 1, none⟩ = some (.int .i64 p) ∧ w'.cell? ⟨v5.heap.size, 2, none⟩ = some (.slice (some ⟨g2, 0, none⟩) us.length us.length) ∧ w'.cell? ⟨(w.heap.size + 1), 0, none⟩ = some (.int .i64 t) ∧ w'.cell? ⟨(w.heap.size + 1), 1, none⟩ = some (.int .i64 p) ∧ w'.cell? ⟨(w.heap.size + 1), 2, none⟩ = some (.slice a us.length c)) := ⟨_, rfl⟩
        have hSmk : ∀ wq, Blk wq v5.heap.size [.int .i64 t, .int .i64 p, .slice (some ⟨g2, 0, none⟩) us.length us.length] → Blk wq (w.heap.size + 1) [.int .i64 t, .int .i64 p, .slice a us.length c] → S wq := fun wq kz kb => by rw [hSdef]; exact ⟨(kz 0 (by simp)).1, (kz 1 (by simp)).1, (kz 2 (by simp)).1, (kb 0 (by simp)).1, (kb 1 (by simp)).1, (kb 2 (by simp)).1⟩
        have hSd : ∀ wq, S wq → (fun w' => w'.cell? ⟨v5.heap.size, 0, none⟩ = some (.int .i64 t) ∧ w'.cell? ⟨v5.heap.size, 1, none⟩ = some (.int .i64 p) ∧ w'.cell? ⟨v5.heap.size, 2, none⟩ = some (.slice (some ⟨g2, 0, none⟩) us.length us.length) ∧ w'.cell? ⟨(w.heap.size + 1), 0, none⟩ = some (.int .i64 t) ∧ w'.cell? ⟨(w.heap.size + 1), 1, none⟩ = some (.int .i64 p) ∧ w'.cell? ⟨(w.heap.size + 1), 2, none⟩ = some (.slice a us.length c)) wq := fun wq h => by rw [hSdef] at h; exact h
        clear hSdef
        have hHeld : S wC.drew := hSmk wC.drew (unhide Kzu0) (unhide Kbu0)
        refine wp_region_to (S := S) (T := []) (by kernel_rfl) hHeld (fun _ => ?_)
        generalize wC.drew = u0 at *
        refine wpTo_tk (i := 0) (v := ?_) rfl (by kernel_rfl) (Or.inl ⟨by rfl, ?_⟩) (by assumption) ?_
        rotate_left
        · intro w hSw
          have hSw := hSd _ hSw
          (try dsimp only at hSw)
          go_simp <;> with_reducible rfl
        try simp only [Act.put, List.getElem_toArray, List.getElem_cons_zero, List.getElem_cons_succ, List.setIfInBounds_toArray, List.set_cons_zero, List.set_cons_succ]
        refine wpTo_tk (i := 1) (v := ?_) rfl (by kernel_rfl) (Or.inl ⟨by rfl, ?_⟩) (by assumption) ?_
        rotate_left
        · intro w hSw
          have hSw := hSd _ hSw
          (try dsimp only at hSw)
          go_simp <;> with_reducible rfl
        try simp only [Act.put, List.getElem_toArray, List.getElem_cons_zero, List.getElem_cons_succ, List.setIfInBounds_toArray, List.set_cons_zero, List.set_cons_succ]
        refine wpTo_ready (rs := [2]) (by kernel_rfl) (by simp) ?_
        refine AllTo.cons (o := _) rfl (fun K hK => ?_) ?_
        ·
         (try simp only [List.getElem_toArray, List.getElem_cons_zero, List.getElem_cons_succ])
         go_simp
         refine (toCarton_any t p a c us u0 (unhide Qyu0) hn6).mono ?_
         rintro e u8 ⟨g1, rfl, ho, hb⟩
         have Bu8 := hide ((unhide Bu0).trans (hb.mono (unhide Bu0).size))
         have Kau8 := hide (Blk.below hb Zau0 (unhide Kau0))
         have Zau8 := Nat.lt_of_lt_of_le Zau0 hb.size
         have Kbu8 := hide (Blk.below hb Zbu0 (unhide Kbu0))
         have Zbu8 := Nat.lt_of_lt_of_le Zbu0 hb.size
         have Kxu8 := hide (Blk.below hb Zxu0 (unhide Kxu0))
         have Zxu8 := Nat.lt_of_lt_of_le Zxu0 hb.size
         have Kzu8 := hide (Blk.below hb Zzu0 (unhide Kzu0))
         have Zzu8 := Nat.lt_of_lt_of_le Zzu0 hb.size
         have Qru8 : Hid (RdReq u8 r h) := (unhide Qru0).mono hb
         have Qgu8 : Hid (ErrT u8) := (unhide Qgu0).later hb
         have Qyu8 : Hid (Rd u8 (a) us.length us) := Rd.mono (unhide Qyu0) hb
         have Qdu8 : Hid (RdReq u8 r h2) := (unhide Qdu0).mono hb
         have Qvu8 : Hid (Rd u8 (some ⟨g2, 0, none⟩) us.length us) := Rd.mono (unhide Qvu0) hb
         have Qsu8 : Hid (Rd u8 (some ⟨g1, 0, none⟩) us.length us) := own_reads ho
         clear ho
         clear hb
         clear Bu0 Kau0 Zau0 Kbu0 Zbu0 Kxu0 Zxu0 Kzu0 Zzu0 Qru0 Qgu0 Qyu0 Qdu0 Qvu0
         clear hHeld
         go_wp2_with fail
         have hHeld := hSmk u8 (unhide Kzu8) (unhide Kbu8)
         refine hK.out _ _ (fun _ => hHeld) ?_
         clear hK K
         try simp only [Act.put, List.getElem_toArray, List.getElem_cons_zero, List.getElem_cons_succ, List.setIfInBounds_toArray, List.set_cons_zero, List.set_cons_succ]
         refine wpTo_ready (rs := [3]) (by kernel_rfl) (by simp) ?_
         refine AllTo.cons (o := _) rfl (fun K hK => ?_) ?_
         ·
          (try simp only [List.getElem_toArray, List.getElem_cons_zero, List.getElem_cons_succ])
          go_simp
          refine (eqCarton_same t p _ us.length _ us.length us u8 (unhide Qvu8) (unhide Qsu8) hn6).mono ?_
          rintro e u9 ⟨rfl, hb⟩
          have Bu9 := hide ((unhide Bu8).trans (hb.mono (unhide Bu8).size))
          have Kau9 := hide (Blk.below hb Zau8 (unhide Kau8))
          have Zau9 := Nat.lt_of_lt_of_le Zau8 hb.size
          have Kbu9 := hide (Blk.below hb Zbu8 (unhide Kbu8))
          have Zbu9 := Nat.lt_of_lt_of_le Zbu8 hb.size
          have Kxu9 := hide (Blk.below hb Zxu8 (unhide Kxu8))
          have Zxu9 := Nat.lt_of_lt_of_le Zxu8 hb.size
          have Kzu9 := hide (Blk.below hb Zzu8 (unhide Kzu8))
          have Zzu9 := Nat.lt_of_lt_of_le Zzu8 hb.size
          have Qru9 : Hid (RdReq u9 r h) := (unhide Qru8).mono hb
          have Qgu9 : Hid (ErrT u9) := (unhide Qgu8).later hb
          have Qyu9 : Hid (Rd u9 (a) us.length us) := Rd.mono (unhide Qyu8) hb
          have Qdu9 : Hid (RdReq u9 r h2) := (unhide Qdu8).mono hb
          have Qvu9 : Hid (Rd u9 (some ⟨g2, 0, none⟩) us.length us) := Rd.mono (unhide Qvu8) hb
          have Qsu9 : Hid (Rd u9 (some ⟨g1, 0, none⟩) us.length us) := Rd.mono (unhide Qsu8) hb
          clear hb
          clear Bu8 Kau8 Zau8 Kbu8 Zbu8 Kxu8 Zxu8 Kzu8 Zzu8 Qru8 Qgu8 Qyu8 Qdu8 Qvu8 Qsu8
          clear hHeld
          go_wp2_with fail
          have hHeld := hSmk u9 (unhide Kzu9) (unhide Kbu9)
          refine hK.out _ _ (fun _ => hHeld) ?_
          clear hK K
          try simp only [Act.put, List.getElem_toArray, List.getElem_cons_zero, List.getElem_cons_succ, List.setIfInBounds_toArray, List.set_cons_zero, List.set_cons_succ]
          refine wpTo_tk (i := 4) (v := ?_) rfl (by kernel_rfl) (Or.inl ⟨by rfl, ?_⟩) (by assumption) ?_
          rotate_left
          · intro w hSw
            have hSw := hSd _ hSw
            (try dsimp only at hSw)
            go_simp <;> with_reducible rfl
          try simp only [Act.put, List.getElem_toArray, List.getElem_cons_zero, List.getElem_cons_succ, List.setIfInBounds_toArray, List.set_cons_zero, List.set_cons_succ]
          refine wpTo_done (by kernel_rfl) ?_ _
          refine NoPanic.normal ?_
          go_wp2_with fail
          go_meet
          case rel => exact ⟨rfl, unhide Kau9, Zau9, unhide Kbu9, Zbu9, unhide Kxu9, Zxu9, unhide Kzu9, Zzu9, unhide Qru9, unhide Qgu9, unhide Qyu9, unhide Qdu9, unhide Qvu9, unhide Bu9⟩
         exact AllTo.nil
        exact AllTo.nil
      case rest =>
        clear BwC KawC ZawC KbwC ZbwC KxwC ZxwC KzwC ZzwC QrwC QgwC QywC QdwC QvwC
        obtain ⟨rfl, ka, za, kb, zb, kx, zx, kz, zz, qr, qg, qy, qd, qv, hb⟩ := hcut
        obtain ⟨wD, hw8⟩ : ∃ w8 : World, w8 = wc := ⟨_, rfl⟩
        subst wc
        have BwD := hide hb
        have KawD := hide ka
        have ZawD : w.heap.size < wD.heap.size := za
        have KbwD := hide kb
        have ZbwD : (w.heap.size + 1) < wD.heap.size := zb
        have KxwD := hide kx
        have ZxwD : v3.heap.size < wD.heap.size := zx
        have KzwD := hide kz
        have ZzwD : v5.heap.size < wD.heap.size := zz
        have QrwD : Hid (RdReq wD r h) := qr
        have QgwD : Hid (ErrT wD) := qg
        have QywD : Hid (Rd wD (a) us.length us) := qy
        have QdwD : Hid (RdReq wD r h2) := qd
        have QvwD : Hid (Rd wD (some ⟨g2, 0, none⟩) us.length us) := qv
        clear hb ka za kb zb kx zx kz zz qr qg qy qd qv
        go_wp2_with fail
        go_ret
        exact ⟨rfl, unhide BwD⟩
end Go.Proofs.YtphdeojiehigpaaGreatDoor
