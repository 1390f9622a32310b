/- What units come to, and whether there is room: the model. -/
import Derived.Test.YtpoonidoijepaaaGreatDoorPackPlain
import Derived.Test.YtpoonidoijepaaaGreatDoorSpecVol
import Derived.Test.YtpoonidoijepaaaGreatDoorPkG
import Derived.Test.YtpoonidoijepaaaGreatDoorAppendSome
import Derived.Test.YtpoonidoijepaaaGreatDoorPackImpl
import Derived.Deep.DeepMust
import Derived.Deep.DeepCutAuto
import Derived.Deep.RegionHeld3
namespace Go.Proofs.YtpoonidoijepaaaGreatDoor
open Go.RowKit
set_option linter.unusedVariables false
set_option linter.unusedSimpArgs false


open List in
set_option maxRecDepth 100000 in
set_option maxHeartbeats 4000000 in
theorem l7Of_any (r : ReqV) (h : ReqH) (aa : Option Addr) (na ca : Nat) (au : Option Addr) (n c : Nat) (us : List Int) (w : World) (hr : RdReq w r h) (ha : Rd w aa na (unitsR r)) (hu : Rd w au n us) (hn : n ≤ 1048600) :
    Calls Tryz.prog 58 #[reqVal r h, .slice aa na ca, .slice au n c] w fun e w' => e = .returned (.agg #[.int .i64 (volOf (itemsR r) us), .int .i64 (gramOf (itemsR r) us)]) ∧ Below w.heap.size w w' := by
  have HR := hide hr
  have HA := hide ha
  have HU := hide hu
  clear hr ha hu
  unfold reqVal
  go_enter Tryz.func58, Tryz.ntmps58
  go_wp2
  have BwA : Hid (Below w.heap.size w (((w.alloc (.cells #[.int .i64 r.way, .int .i64 r.pal.wd, .int .i64 r.pal.dp, .int .i64 r.pal.ht, .int .i64 r.pal.gram, .int .i64 r.classes, .slice h.ap r.pairs.length h.cp, .slice h.at' r.types.length h.ct, .int .i64 r.master, .slice h.ai r.items.length h.ci] 30)).alloc (.cells #[.int .i64 0, .int .i64 0] 85)).alloc (.cells #[.int .i64 0, .int .i64 0] 85))) := ((((Below.refl _ _).alloc (by simp) _).alloc (by simp) _).alloc (by simp <;> omega) _)
  have KawA : Hid (Blk (((w.alloc (.cells #[.int .i64 r.way, .int .i64 r.pal.wd, .int .i64 r.pal.dp, .int .i64 r.pal.ht, .int .i64 r.pal.gram, .int .i64 r.classes, .slice h.ap r.pairs.length h.cp, .slice h.at' r.types.length h.ct, .int .i64 r.master, .slice h.ai r.items.length h.ci] 30)).alloc (.cells #[.int .i64 0, .int .i64 0] 85)).alloc (.cells #[.int .i64 0, .int .i64 0] 85)) w.heap.size [.int .i64 r.way, .int .i64 r.pal.wd, .int .i64 r.pal.dp, .int .i64 r.pal.ht, .int .i64 r.pal.gram, .int .i64 r.classes, .slice h.ap r.pairs.length h.cp, .slice h.at' r.types.length h.ct, .int .i64 r.master, .slice h.ai r.items.length h.ci]) := (((Blk.allocAt (w := w) [.int .i64 r.way, .int .i64 r.pal.wd, .int .i64 r.pal.dp, .int .i64 r.pal.ht, .int .i64 r.pal.gram, .int .i64 r.classes, .slice h.ap r.pairs.length h.cp, .slice h.at' r.types.length h.ct, .int .i64 r.master, .slice h.ai r.items.length h.ci] (by simp)).allocOld (by simp) _).allocOld (by simp <;> omega) _)
  have ZawA : w.heap.size < (((w.alloc (.cells #[.int .i64 r.way, .int .i64 r.pal.wd, .int .i64 r.pal.dp, .int .i64 r.pal.ht, .int .i64 r.pal.gram, .int .i64 r.classes, .slice h.ap r.pairs.length h.cp, .slice h.at' r.types.length h.ct, .int .i64 r.master, .slice h.ai r.items.length h.ci] 30)).alloc (.cells #[.int .i64 0, .int .i64 0] 85)).alloc (.cells #[.int .i64 0, .int .i64 0] 85)).heap.size := by simp <;> omega
  have Ga : w.heap.size ≤ w.heap.size := by omega
  have KswA : Hid (Blk (((w.alloc (.cells #[.int .i64 r.way, .int .i64 r.pal.wd, .int .i64 r.pal.dp, .int .i64 r.pal.ht, .int .i64 r.pal.gram, .int .i64 r.classes, .slice h.ap r.pairs.length h.cp, .slice h.at' r.types.length h.ct, .int .i64 r.master, .slice h.ai r.items.length h.ci] 30)).alloc (.cells #[.int .i64 0, .int .i64 0] 85)).alloc (.cells #[.int .i64 0, .int .i64 0] 85)) (w.heap.size + 1) [.int .i64 0, .int .i64 0]) := ((Blk.allocAt (w := (w.alloc (.cells #[.int .i64 r.way, .int .i64 r.pal.wd, .int .i64 r.pal.dp, .int .i64 r.pal.ht, .int .i64 r.pal.gram, .int .i64 r.classes, .slice h.ap r.pairs.length h.cp, .slice h.at' r.types.length h.ct, .int .i64 r.master, .slice h.ai r.items.length h.ci] 30))) [.int .i64 0, .int .i64 0] (by simp)).allocOld (by simp) _)
  have ZswA : (w.heap.size + 1) < (((w.alloc (.cells #[.int .i64 r.way, .int .i64 r.pal.wd, .int .i64 r.pal.dp, .int .i64 r.pal.ht, .int .i64 r.pal.gram, .int .i64 r.classes, .slice h.ap r.pairs.length h.cp, .slice h.at' r.types.length h.ct, .int .i64 r.master, .slice h.ai r.items.length h.ci] 30)).alloc (.cells #[.int .i64 0, .int .i64 0] 85)).alloc (.cells #[.int .i64 0, .int .i64 0] 85)).heap.size := by simp <;> omega
  have Gs : w.heap.size ≤ (w.heap.size + 1) := by omega
  have KlwA : Hid (Blk (((w.alloc (.cells #[.int .i64 r.way, .int .i64 r.pal.wd, .int .i64 r.pal.dp, .int .i64 r.pal.ht, .int .i64 r.pal.gram, .int .i64 r.classes, .slice h.ap r.pairs.length h.cp, .slice h.at' r.types.length h.ct, .int .i64 r.master, .slice h.ai r.items.length h.ci] 30)).alloc (.cells #[.int .i64 0, .int .i64 0] 85)).alloc (.cells #[.int .i64 0, .int .i64 0] 85)) (w.heap.size + 2) [.int .i64 0, .int .i64 0]) := (Blk.allocAt (w := ((w.alloc (.cells #[.int .i64 r.way, .int .i64 r.pal.wd, .int .i64 r.pal.dp, .int .i64 r.pal.ht, .int .i64 r.pal.gram, .int .i64 r.classes, .slice h.ap r.pairs.length h.cp, .slice h.at' r.types.length h.ct, .int .i64 r.master, .slice h.ai r.items.length h.ci] 30)).alloc (.cells #[.int .i64 0, .int .i64 0] 85))) [.int .i64 0, .int .i64 0] (by simp))
  have ZlwA : (w.heap.size + 2) < (((w.alloc (.cells #[.int .i64 r.way, .int .i64 r.pal.wd, .int .i64 r.pal.dp, .int .i64 r.pal.ht, .int .i64 r.pal.gram, .int .i64 r.classes, .slice h.ap r.pairs.length h.cp, .slice h.at' r.types.length h.ct, .int .i64 r.master, .slice h.ai r.items.length h.ci] 30)).alloc (.cells #[.int .i64 0, .int .i64 0] 85)).alloc (.cells #[.int .i64 0, .int .i64 0] 85)).heap.size := by simp
  have Gl : w.heap.size ≤ (w.heap.size + 2) := by omega
  have Nqal : w.heap.size ≠ (w.heap.size + 2) := by omega
  have Nqsl : (w.heap.size + 1) ≠ (w.heap.size + 2) := by omega
  generalize (((w.alloc (.cells #[.int .i64 r.way, .int .i64 r.pal.wd, .int .i64 r.pal.dp, .int .i64 r.pal.ht, .int .i64 r.pal.gram, .int .i64 r.classes, .slice h.ap r.pairs.length h.cp, .slice h.at' r.types.length h.ct, .int .i64 r.master, .slice h.ai r.items.length h.ci] 30)).alloc (.cells #[.int .i64 0, .int .i64 0] 85)).alloc (.cells #[.int .i64 0, .int .i64 0] 85)) = wA at *
  go_loopw [8] (fun i wr => ∃ (k : Nat) (t g : Int), k ≤ n ∧ i = .int .i64 k ∧ t = ((us.take k).map (volAt (itemsR r))).sum ∧ g = ((us.take k).map (gramAt (itemsR r))).sum ∧ Blk wr w.heap.size [.int .i64 r.way, .int .i64 r.pal.wd, .int .i64 r.pal.dp, .int .i64 r.pal.ht, .int .i64 r.pal.gram, .int .i64 r.classes, .slice h.ap r.pairs.length h.cp, .slice h.at' r.types.length h.ct, .int .i64 r.master, .slice h.ai r.items.length h.ci] ∧ w.heap.size < wr.heap.size ∧ Blk wr (w.heap.size + 1) [.int .i64 0, .int .i64 0] ∧ (w.heap.size + 1) < wr.heap.size ∧ Blk wr (w.heap.size + 2) [.int .i64 t, .int .i64 g] ∧ (w.heap.size + 2) < wr.heap.size ∧ Below w.heap.size w wr) (fun i _ => n - (intOf i).toNat)
  case atStart => exact ⟨0, 0, 0, Nat.zero_le _, rfl, by simp, by simp, unhide KawA, ZawA, unhide KswA, ZswA, unhide KlwA, ZlwA, unhide BwA⟩
  case round =>
    clear BwA KawA ZawA KswA ZswA KlwA ZlwA
    obtain ⟨k, t, g, hk, rfl, ht, hg, ka, Zawr, ks, Zswr, kl, Zlwr, hb⟩ := hrel
    have Bwr := hide hb
    have Kawr := hide ka
    have Kswr := hide ks
    have Klwr := hide kl
    have HT := hide ht
    have HGG := hide hg
    clear hb ka ks kl
    by_cases hlk : k < n
    case neg =>
      have HE1 : Hid (t = volOf (itemsR r) us) := by rw [unhide HT, List.take_of_length_le (by rw [(unhide HU).1]; omega)]; rfl
      have HE2 : Hid (g = gramOf (itemsR r) us) := by rw [unhide HGG, List.take_of_length_le (by rw [(unhide HU).1]; omega)]; rfl
      clear ht hg
      have cl0 : wr.cell? ⟨w.heap.size + 2, 0, none⟩ = some (.int .i64 t) := ((unhide Klwr) 0 (by simp)).1
      have cl1 : wr.cell? ⟨w.heap.size + 2, 1, none⟩ = some (.int .i64 g) := ((unhide Klwr) 1 (by simp)).1
      have cs0 : wr.cell? ⟨w.heap.size + 1, 0, none⟩ = some (.int .i64 0) := ((unhide Kswr) 0 (by simp)).1
      have cs1 : wr.cell? ⟨w.heap.size + 1, 1, none⟩ = some (.int .i64 0) := ((unhide Kswr) 1 (by simp)).1
      have fs0 : wr.frozen? ⟨w.heap.size + 1, 0, none⟩ = false := ((unhide Kswr) 0 (by simp)).2
      have fs1 : wr.frozen? ⟨w.heap.size + 1, 1, none⟩ = false := ((unhide Kswr) 1 (by simp)).2
      go_wp2
      have hk2 := Blk.fill2 (x := .int .i64 t) (y := .int .i64 g) (unhide Kswr)
      have hB2 := ((unhide Bwr).setCell (p := ⟨w.heap.size + 1, 0, none⟩) Gs (.int .i64 t)).setCell (p := ⟨w.heap.size + 1, 1, none⟩) Gs (.int .i64 g)
      generalize ((wr.setCell ⟨w.heap.size + 1, 0, none⟩ (.int .i64 t)).setCell ⟨w.heap.size + 1, 1, none⟩ (.int .i64 g)) = X at *
      have k0 := (hk2 0 (by simp)).1
      have k1 := (hk2 1 (by simp)).1
      refine bodyPost_ret (v := .agg #[.int .i64 t, .int .i64 g]) (by simp [results, Tryz.results58, go_sem, k0, k1]) rfl ?_
      exact ⟨ret_bulk (unhide HE1) (unhide HE2), hB2⟩
    obtain ⟨b, off, hua, hc⟩ := ((unhide HU).mono (unhide Bwr)).2 k hlk
    have hcw : w.cell? ⟨b, off + k, none⟩ = some (.int .i64 (us.getD k 0)) := by
      obtain ⟨b', off', e, hc'⟩ := (unhide HU).2 k hlk
      rw [hua] at e
      injection e with e
      injection e with e1 e2
      subst e1 e2
      exact hc'
    have htb := sumTo_bd (volAt (itemsR r)) 8000000000 (by omega) (volAt_bd (itemsR r)) us k (by omega)
    rw [← ht] at htb
    have hgb := sumTo_bd (gramAt (itemsR r)) 100000 (by omega) (gramAt_bd (itemsR r) (itemsR_good r).gram) us k (by omega)
    rw [← hg] at hgb
    have HST := hide (sumTo_step (volAt (itemsR r)) us k (by rw [(unhide HU).1]; exact hlk))
    have HSG := hide (sumTo_step (gramAt (itemsR r)) us k (by rw [(unhide HU).1]; exact hlk))
    generalize us.getD k 0 = x at hc hcw HST HSG
    subst hua
    have hxb := volAt_bd (itemsR r) x
    have hyb := gramAt_bd (itemsR r) (itemsR_good r).gram x
    have HVQ : Hid (volAt (itemsR r) x = vol (itemAt (itemsR r) x).wd (itemAt (itemsR r) x).ht (itemAt (itemsR r) x).dp) := rfl
    have HGQ : Hid (gramAt (itemsR r) x = (itemAt (itemsR r) x).gram) := rfl
    rw [unhide HVQ] at hxb
    rw [unhide HGQ] at hyb
    have HTB : Hid (0 ≤ t ∧ t ≤ 8388800000000000 ∧ 0 ≤ g ∧ g ≤ 104860000000 ∧ 0 ≤ vol (itemAt (itemsR r) x).wd (itemAt (itemsR r) x).ht (itemAt (itemsR r) x).dp ∧ vol (itemAt (itemsR r) x).wd (itemAt (itemsR r) x).ht (itemAt (itemsR r) x).dp ≤ 8000000000 ∧ 0 ≤ (itemAt (itemsR r) x).gram ∧ (itemAt (itemsR r) x).gram ≤ 100000) := ⟨by omega, by omega, by omega, by omega, by omega, by omega, by omega, by omega⟩
    have hcu : ∀ u, Below w.heap.size w u → u.cell? ⟨b, off + k, none⟩ = some (.int .i64 x) := fun u hb => (hb.cell (World.block_lt_of_cell? w _ hcw)).trans hcw
    clear ht hg htb hgb hxb hyb hcw
    go_upto_region 5 with fail
    clear hc
    go_cut [9] (fun v wc => ∃ gx, v = .pointer (some ⟨gx, 0, none⟩) ∧ Blk wc gx [.int .i64 (itemAt (itemsR r) x).id, .int .i64 (itemAt (itemsR r) x).wd, .int .i64 (itemAt (itemsR r) x).ht, .int .i64 (itemAt (itemsR r) x).dp, .int .i64 (itemAt (itemsR r) x).gram, .int .i64 (itemAt (itemsR r) x).cls, .int .i64 (itemAt (itemsR r) x).cnt] ∧ gx < wc.heap.size ∧ w.heap.size ≤ gx ∧ w.heap.size ≠ gx ∧ gx ≠ w.heap.size ∧ (w.heap.size + 1) ≠ gx ∧ gx ≠ (w.heap.size + 1) ∧ (w.heap.size + 2) ≠ gx ∧ gx ≠ (w.heap.size + 2) ∧ Blk wc w.heap.size [.int .i64 r.way, .int .i64 r.pal.wd, .int .i64 r.pal.dp, .int .i64 r.pal.ht, .int .i64 r.pal.gram, .int .i64 r.classes, .slice h.ap r.pairs.length h.cp, .slice h.at' r.types.length h.ct, .int .i64 r.master, .slice h.ai r.items.length h.ci] ∧ w.heap.size < wc.heap.size ∧ Blk wc (w.heap.size + 1) [.int .i64 0, .int .i64 0] ∧ (w.heap.size + 1) < wc.heap.size ∧ Blk wc (w.heap.size + 2) [.int .i64 t, .int .i64 g] ∧ (w.heap.size + 2) < wc.heap.size ∧ Below w.heap.size w wc)
    case first =>
      refine wp_region_noPanic ?_
      have Bu0 : Hid (Below w.heap.size w wr.drew) := (unhide Bwr).drew
      have Kau0 : Hid (Blk wr.drew w.heap.size [.int .i64 r.way, .int .i64 r.pal.wd, .int .i64 r.pal.dp, .int .i64 r.pal.ht, .int .i64 r.pal.gram, .int .i64 r.classes, .slice h.ap r.pairs.length h.cp, .slice h.at' r.types.length h.ct, .int .i64 r.master, .slice h.ai r.items.length h.ci]) := unhide Kawr
      have Zau0 : w.heap.size < wr.drew.heap.size := Zawr
      have Ksu0 : Hid (Blk wr.drew (w.heap.size + 1) [.int .i64 0, .int .i64 0]) := unhide Kswr
      have Zsu0 : (w.heap.size + 1) < wr.drew.heap.size := Zswr
      have Klu0 : Hid (Blk wr.drew (w.heap.size + 2) [.int .i64 t, .int .i64 g]) := unhide Klwr
      have Zlu0 : (w.heap.size + 2) < wr.drew.heap.size := Zlwr
      obtain ⟨S, hSdef⟩ : ∃ S : World → Prop, S = (fun w' => w'.cell? ⟨w.heap.size, 0, none⟩ = some (.int .i64 r.way) ∧ w'.cell? ⟨w.heap.size, 1, none⟩ = some (.int .i64 r.pal.wd) ∧ w'.cell? ⟨w.heap.size, 2, none⟩ = some (.int .i64 r.pal.dp) ∧ w'.cell? ⟨w.heap.size, 3, none⟩ = some (.int .i64 r.pal.ht) ∧ w'.cell? ⟨w.heap.size, 4, none⟩ = some (.int .i64 r.pal.gram) ∧ w'.cell? ⟨w.heap.size, 5, none⟩ = some (.int .i64 r.classes) ∧ w'.cell? ⟨w.heap.size, 6, none⟩ = some (.slice h.ap r.pairs.length h.cp) ∧ w'.cell? ⟨w.heap.size, 7, none⟩ = some (.slice h.at' r.types.length h.ct) ∧ w'.cell? ⟨w.heap.size, 8, none⟩ = some (.int .i64 r.master) ∧ w'.cell? ⟨w.heap.size, 9, none⟩ = some (.slice h.ai r.items.length h.ci) ∧ w'.cell? ⟨b, off + k, none⟩ = some (.int .i64 x)) := ⟨_, rfl⟩
      have hSmk : ∀ wq, Blk wq w.heap.size [.int .i64 r.way, .int .i64 r.pal.wd, .int .i64 r.pal.dp, .int .i64 r.pal.ht, .int .i64 r.pal.gram, .int .i64 r.classes, .slice h.ap r.pairs.length h.cp, .slice h.at' r.types.length h.ct, .int .i64 r.master, .slice h.ai r.items.length h.ci] → (wq.cell? ⟨b, off + k, none⟩ = some (.int .i64 x)) → S wq := fun wq ka p0 => by rw [hSdef]; exact ⟨(ka 0 (by simp)).1, (ka 1 (by simp)).1, (ka 2 (by simp)).1, (ka 3 (by simp)).1, (ka 4 (by simp)).1, (ka 5 (by simp)).1, (ka 6 (by simp)).1, (ka 7 (by simp)).1, (ka 8 (by simp)).1, (ka 9 (by simp)).1, p0⟩
      have hSd : ∀ wq, S wq → (fun w' => w'.cell? ⟨w.heap.size, 0, none⟩ = some (.int .i64 r.way) ∧ w'.cell? ⟨w.heap.size, 1, none⟩ = some (.int .i64 r.pal.wd) ∧ w'.cell? ⟨w.heap.size, 2, none⟩ = some (.int .i64 r.pal.dp) ∧ w'.cell? ⟨w.heap.size, 3, none⟩ = some (.int .i64 r.pal.ht) ∧ w'.cell? ⟨w.heap.size, 4, none⟩ = some (.int .i64 r.pal.gram) ∧ w'.cell? ⟨w.heap.size, 5, none⟩ = some (.int .i64 r.classes) ∧ w'.cell? ⟨w.heap.size, 6, none⟩ = some (.slice h.ap r.pairs.length h.cp) ∧ w'.cell? ⟨w.heap.size, 7, none⟩ = some (.slice h.at' r.types.length h.ct) ∧ w'.cell? ⟨w.heap.size, 8, none⟩ = some (.int .i64 r.master) ∧ w'.cell? ⟨w.heap.size, 9, none⟩ = some (.slice h.ai r.items.length h.ci) ∧ w'.cell? ⟨b, off + k, none⟩ = some (.int .i64 x)) wq := fun wq h => by rw [hSdef] at h; exact h
      clear hSdef
      have hHeld : S wr.drew := hSmk wr.drew (unhide Kau0) (hcu _ (unhide Bu0))
      refine wp_region_to (S := S) (T := []) (by kernel_rfl) hHeld (fun _ => ?_)
      generalize wr.drew = u0 at *
      refine wpTo_take (i := 0) (v := ?_) rfl (by kernel_rfl) (by kernel_rfl) (by kernel_rfl) (by kernel_rfl) (by kernel_rfl) (fun _ _ _ h => h) (Or.inl ⟨by rfl, ?_⟩) (by assumption) ?_
      rotate_left
      · intro w hSw
        have hSw := hSd _ hSw
        (try dsimp only at hSw)
        go_simp <;> with_reducible rfl
      try simp only [Act.put, getElem_toArray, getElem_cons_zero, getElem_cons_succ, setIfInBounds_toArray, set_cons_zero, set_cons_succ]
      refine wpTo_take (i := 1) (v := ?_) rfl (by kernel_rfl) (by kernel_rfl) (by kernel_rfl) (by kernel_rfl) (by kernel_rfl) (fun _ _ _ h => h) (Or.inl ⟨by rfl, ?_⟩) (by assumption) ?_
      rotate_left
      · intro w hSw
        have hSw := hSd _ hSw
        (try dsimp only at hSw)
        go_simp <;> with_reducible rfl
      try simp only [Act.put, getElem_toArray, getElem_cons_zero, getElem_cons_succ, setIfInBounds_toArray, set_cons_zero, set_cons_succ]
      refine wpTo_take (i := 2) (v := ?_) rfl (by kernel_rfl) (by kernel_rfl) (by kernel_rfl) (by kernel_rfl) (by kernel_rfl) (fun _ _ _ h => h) (Or.inl ⟨by rfl, ?_⟩) (by assumption) ?_
      rotate_left
      · intro w hSw
        have hSw := hSd _ hSw
        (try dsimp only at hSw)
        go_simp <;> with_reducible rfl
      try simp only [Act.put, getElem_toArray, getElem_cons_zero, getElem_cons_succ, setIfInBounds_toArray, set_cons_zero, set_cons_succ]
      refine wpTo_take (i := 3) (v := ?_) rfl (by kernel_rfl) (by kernel_rfl) (by kernel_rfl) (by kernel_rfl) (by kernel_rfl) (fun _ _ _ h => h) (Or.inl ⟨by rfl, ?_⟩) (by assumption) ?_
      rotate_left
      · intro w hSw
        have hSw := hSd _ hSw
        (try dsimp only at hSw)
        go_simp <;> with_reducible rfl
      try simp only [Act.put, getElem_toArray, getElem_cons_zero, getElem_cons_succ, setIfInBounds_toArray, set_cons_zero, set_cons_succ]
      refine wpTo_take (i := 4) (v := ?_) rfl (by kernel_rfl) (by kernel_rfl) (by kernel_rfl) (by kernel_rfl) (by kernel_rfl) (fun _ _ _ h => h) (Or.inl ⟨by rfl, ?_⟩) (by assumption) ?_
      rotate_left
      · intro w hSw
        have hSw := hSd _ hSw
        (try dsimp only at hSw)
        go_simp <;> with_reducible rfl
      try simp only [Act.put, getElem_toArray, getElem_cons_zero, getElem_cons_succ, setIfInBounds_toArray, set_cons_zero, set_cons_succ]
      refine wpTo_take (i := 5) (v := ?_) rfl (by kernel_rfl) (by kernel_rfl) (by kernel_rfl) (by kernel_rfl) (by kernel_rfl) (fun _ _ _ h => h) (Or.inl ⟨by rfl, ?_⟩) (by assumption) ?_
      rotate_left
      · intro w hSw
        have hSw := hSd _ hSw
        (try dsimp only at hSw)
        go_simp <;> with_reducible rfl
      try simp only [Act.put, getElem_toArray, getElem_cons_zero, getElem_cons_succ, setIfInBounds_toArray, set_cons_zero, set_cons_succ]
      refine wpTo_ready (rs := [6, 10]) (by kernel_rfl) (by simp) ?_
      refine AllTo.cons (o := _) rfl (fun K hK => ?_) ?_
      ·
       (try simp only [getElem_toArray, getElem_cons_zero, getElem_cons_succ])
       go_simp
       refine (l6Item_any r h _ _ _ x u0 ((unhide HR).mono (unhide Bu0)) ((unhide HA).mono (unhide Bu0))).mono ?_
       rintro e u1 ⟨bb, rfl, hb⟩
       have Bu1 := hide ((unhide Bu0).trans (hb.mono (unhide Bu0).size))
       have Kau1 := hide (Blk.below hb Zau0 (unhide Kau0))
       have Zau1 := Nat.lt_of_lt_of_le Zau0 hb.size
       have Ksu1 := hide (Blk.below hb Zsu0 (unhide Ksu0))
       have Zsu1 := Nat.lt_of_lt_of_le Zsu0 hb.size
       have Klu1 := hide (Blk.below hb Zlu0 (unhide Klu0))
       have Zlu1 := Nat.lt_of_lt_of_le Zlu0 hb.size
       unfold itemVal
       clear hb
       clear Bu0 Kau0 Zau0 Ksu0 Zsu0 Klu0 Zlu0
       clear hHeld
       go_wp2_with fail
       have hHeld := hSmk u1 (unhide Kau1) (hcu _ (unhide Bu1))
       refine hK.out _ _ (fun _ => hHeld) ?_
       clear hK K
       try simp only [Act.put, getElem_toArray, getElem_cons_zero, getElem_cons_succ, setIfInBounds_toArray, set_cons_zero, set_cons_succ]
       refine wpTo_take (i := 7) (v := ?_) rfl (by kernel_rfl) (by kernel_rfl) (by kernel_rfl) (by kernel_rfl) (by kernel_rfl) (fun _ _ _ h => h) (Or.inl ⟨by rfl, ?_⟩) (by assumption) ?_
       rotate_left
       · intro w hSw
         have hSw := hSd _ hSw
         (try dsimp only at hSw)
         go_simp <;> with_reducible rfl
       try simp only [Act.put, getElem_toArray, getElem_cons_zero, getElem_cons_succ, setIfInBounds_toArray, set_cons_zero, set_cons_succ]
       refine wpTo_take (i := 8) (v := ?_) rfl (by kernel_rfl) (by kernel_rfl) (by kernel_rfl) (by kernel_rfl) (by kernel_rfl) (fun _ _ _ h => h) (Or.inl ⟨by rfl, ?_⟩) (by assumption) ?_
       rotate_left
       · intro w hSw
         have hSw := hSd _ hSw
         (try dsimp only at hSw)
         go_simp <;> with_reducible rfl
       try simp only [Act.put, getElem_toArray, getElem_cons_zero, getElem_cons_succ, setIfInBounds_toArray, set_cons_zero, set_cons_succ]
       refine wpTo_take (i := 9) (v := ?_) rfl (by kernel_rfl) (by kernel_rfl) (by kernel_rfl) (by kernel_rfl) (by kernel_rfl) (fun _ _ _ h => h) (Or.inl ⟨by rfl, ?_⟩) (by assumption) ?_
       rotate_left
       · intro w hSw
         have hSw := hSd _ hSw
         (try dsimp only at hSw)
         go_simp <;> with_reducible rfl
       try simp only [Act.put, getElem_toArray, getElem_cons_zero, getElem_cons_succ, setIfInBounds_toArray, set_cons_zero, set_cons_succ]
       refine wpTo_ready (rs := [10]) (by kernel_rfl) (by simp) ?_
       refine AllTo.cons (o := _) rfl (fun K hK => ?_) ?_
       ·
        (try simp only [getElem_toArray, getElem_cons_zero, getElem_cons_succ])
        have Bu2 := hide ((unhide Bu1).alloc (unhide Bu1).size (.cells #[.int .i64 0, .int .i64 0, .int .i64 0, .int .i64 0, .int .i64 0, .int .i64 0, .int .i64 0] 80))
        have Kxu2 : Hid (Blk (u1.alloc (.cells #[.int .i64 0, .int .i64 0, .int .i64 0, .int .i64 0, .int .i64 0, .int .i64 0, .int .i64 0] 80)) u1.heap.size [.int .i64 0, .int .i64 0, .int .i64 0, .int .i64 0, .int .i64 0, .int .i64 0, .int .i64 0]) := Blk.allocAt [.int .i64 0, .int .i64 0, .int .i64 0, .int .i64 0, .int .i64 0, .int .i64 0, .int .i64 0] rfl
        have Zxu2 := lt_alloc_new u1 (.cells #[.int .i64 0, .int .i64 0, .int .i64 0, .int .i64 0, .int .i64 0, .int .i64 0, .int .i64 0] 80)
        have Gx : w.heap.size ≤ u1.heap.size := (unhide Bu1).size
        have Kau2 := hide ((unhide Kau1).allocOld Zau1 (.cells #[.int .i64 0, .int .i64 0, .int .i64 0, .int .i64 0, .int .i64 0, .int .i64 0, .int .i64 0] 80))
        have Zau2 := lt_alloc Zau1 (.cells #[.int .i64 0, .int .i64 0, .int .i64 0, .int .i64 0, .int .i64 0, .int .i64 0, .int .i64 0] 80)
        have Nqax : w.heap.size ≠ u1.heap.size := Nat.ne_of_lt Zau1
        have Nqxa := Ne.symm Nqax
        have Ksu2 := hide ((unhide Ksu1).allocOld Zsu1 (.cells #[.int .i64 0, .int .i64 0, .int .i64 0, .int .i64 0, .int .i64 0, .int .i64 0, .int .i64 0] 80))
        have Zsu2 := lt_alloc Zsu1 (.cells #[.int .i64 0, .int .i64 0, .int .i64 0, .int .i64 0, .int .i64 0, .int .i64 0, .int .i64 0] 80)
        have Nqsx : (w.heap.size + 1) ≠ u1.heap.size := Nat.ne_of_lt Zsu1
        have Nqxs := Ne.symm Nqsx
        have Klu2 := hide ((unhide Klu1).allocOld Zlu1 (.cells #[.int .i64 0, .int .i64 0, .int .i64 0, .int .i64 0, .int .i64 0, .int .i64 0, .int .i64 0] 80))
        have Zlu2 := lt_alloc Zlu1 (.cells #[.int .i64 0, .int .i64 0, .int .i64 0, .int .i64 0, .int .i64 0, .int .i64 0, .int .i64 0] 80)
        have Nqlx : (w.heap.size + 2) ≠ u1.heap.size := Nat.ne_of_lt Zlu1
        have Nqxl := Ne.symm Nqlx
        go_simp
        clear hHeld
        clear Bu1 Kau1 Zau1 Ksu1 Zsu1 Klu1 Zlu1
        generalize (u1.alloc (.cells #[.int .i64 0, .int .i64 0, .int .i64 0, .int .i64 0, .int .i64 0, .int .i64 0, .int .i64 0] 80)) = u2 at *
        have hHeld := hSmk u2 (unhide Kau2) (hcu _ (unhide Bu2))
        refine hK.out _ _ (fun _ => hHeld) ?_
        clear hK K
        try simp only [Act.put, getElem_toArray, getElem_cons_zero, getElem_cons_succ, setIfInBounds_toArray, set_cons_zero, set_cons_succ]
        refine wpTo_ready (rs := [11]) (by kernel_rfl) (by simp) ?_
        refine AllTo.cons (o := _) rfl (fun K hK => ?_) ?_
        ·
         (try simp only [getElem_toArray, getElem_cons_zero, getElem_cons_succ])
         have p0 := ((unhide Kxu2) 0 (by simp)).1
         have q0 := ((unhide Kxu2) 0 (by simp)).2
         have p1 := ((unhide Kxu2) 1 (by simp)).1
         have q1 := ((unhide Kxu2) 1 (by simp)).2
         have p2 := ((unhide Kxu2) 2 (by simp)).1
         have q2 := ((unhide Kxu2) 2 (by simp)).2
         have p3 := ((unhide Kxu2) 3 (by simp)).1
         have q3 := ((unhide Kxu2) 3 (by simp)).2
         have p4 := ((unhide Kxu2) 4 (by simp)).1
         have q4 := ((unhide Kxu2) 4 (by simp)).2
         have p5 := ((unhide Kxu2) 5 (by simp)).1
         have q5 := ((unhide Kxu2) 5 (by simp)).2
         have p6 := ((unhide Kxu2) 6 (by simp)).1
         have q6 := ((unhide Kxu2) 6 (by simp)).2
         go_simp
         clear p0 q0 p1 q1 p2 q2 p3 q3 p4 q4 p5 q5 p6 q6
         have Bu3 : Hid (Below w.heap.size w (((((((u2.setCell ⟨u1.heap.size, 0, none⟩ (.int .i64 (itemAt (itemsR r) x).id)).setCell ⟨u1.heap.size, 1, none⟩ (.int .i64 (itemAt (itemsR r) x).wd)).setCell ⟨u1.heap.size, 2, none⟩ (.int .i64 (itemAt (itemsR r) x).ht)).setCell ⟨u1.heap.size, 3, none⟩ (.int .i64 (itemAt (itemsR r) x).dp)).setCell ⟨u1.heap.size, 4, none⟩ (.int .i64 (itemAt (itemsR r) x).gram)).setCell ⟨u1.heap.size, 5, none⟩ (.int .i64 (itemAt (itemsR r) x).cls)).setCell ⟨u1.heap.size, 6, none⟩ (.int .i64 (itemAt (itemsR r) x).cnt))) := ((((((((unhide Bu2).setCell Gx _).setCell Gx _).setCell Gx _).setCell Gx _).setCell Gx _).setCell Gx _).setCell Gx _)
         have Kxu3 : Hid (Blk (((((((u2.setCell ⟨u1.heap.size, 0, none⟩ (.int .i64 (itemAt (itemsR r) x).id)).setCell ⟨u1.heap.size, 1, none⟩ (.int .i64 (itemAt (itemsR r) x).wd)).setCell ⟨u1.heap.size, 2, none⟩ (.int .i64 (itemAt (itemsR r) x).ht)).setCell ⟨u1.heap.size, 3, none⟩ (.int .i64 (itemAt (itemsR r) x).dp)).setCell ⟨u1.heap.size, 4, none⟩ (.int .i64 (itemAt (itemsR r) x).gram)).setCell ⟨u1.heap.size, 5, none⟩ (.int .i64 (itemAt (itemsR r) x).cls)).setCell ⟨u1.heap.size, 6, none⟩ (.int .i64 (itemAt (itemsR r) x).cnt)) u1.heap.size [.int .i64 (itemAt (itemsR r) x).id, .int .i64 (itemAt (itemsR r) x).wd, .int .i64 (itemAt (itemsR r) x).ht, .int .i64 (itemAt (itemsR r) x).dp, .int .i64 (itemAt (itemsR r) x).gram, .int .i64 (itemAt (itemsR r) x).cls, .int .i64 (itemAt (itemsR r) x).cnt]) := Blk.fill7 (unhide Kxu2)
         have Zxu3 : u1.heap.size < (((((((u2.setCell ⟨u1.heap.size, 0, none⟩ (.int .i64 (itemAt (itemsR r) x).id)).setCell ⟨u1.heap.size, 1, none⟩ (.int .i64 (itemAt (itemsR r) x).wd)).setCell ⟨u1.heap.size, 2, none⟩ (.int .i64 (itemAt (itemsR r) x).ht)).setCell ⟨u1.heap.size, 3, none⟩ (.int .i64 (itemAt (itemsR r) x).dp)).setCell ⟨u1.heap.size, 4, none⟩ (.int .i64 (itemAt (itemsR r) x).gram)).setCell ⟨u1.heap.size, 5, none⟩ (.int .i64 (itemAt (itemsR r) x).cls)).setCell ⟨u1.heap.size, 6, none⟩ (.int .i64 (itemAt (itemsR r) x).cnt)).heap.size := by simpa using Zxu2
         have Kau3 : Hid (Blk (((((((u2.setCell ⟨u1.heap.size, 0, none⟩ (.int .i64 (itemAt (itemsR r) x).id)).setCell ⟨u1.heap.size, 1, none⟩ (.int .i64 (itemAt (itemsR r) x).wd)).setCell ⟨u1.heap.size, 2, none⟩ (.int .i64 (itemAt (itemsR r) x).ht)).setCell ⟨u1.heap.size, 3, none⟩ (.int .i64 (itemAt (itemsR r) x).dp)).setCell ⟨u1.heap.size, 4, none⟩ (.int .i64 (itemAt (itemsR r) x).gram)).setCell ⟨u1.heap.size, 5, none⟩ (.int .i64 (itemAt (itemsR r) x).cls)).setCell ⟨u1.heap.size, 6, none⟩ (.int .i64 (itemAt (itemsR r) x).cnt)) w.heap.size [.int .i64 r.way, .int .i64 r.pal.wd, .int .i64 r.pal.dp, .int .i64 r.pal.ht, .int .i64 r.pal.gram, .int .i64 r.classes, .slice h.ap r.pairs.length h.cp, .slice h.at' r.types.length h.ct, .int .i64 r.master, .slice h.ai r.items.length h.ci]) := ((((((((unhide Kau2).other Nqax).other Nqax).other Nqax).other Nqax).other Nqax).other Nqax).other Nqax)
         have Zau3 : w.heap.size < (((((((u2.setCell ⟨u1.heap.size, 0, none⟩ (.int .i64 (itemAt (itemsR r) x).id)).setCell ⟨u1.heap.size, 1, none⟩ (.int .i64 (itemAt (itemsR r) x).wd)).setCell ⟨u1.heap.size, 2, none⟩ (.int .i64 (itemAt (itemsR r) x).ht)).setCell ⟨u1.heap.size, 3, none⟩ (.int .i64 (itemAt (itemsR r) x).dp)).setCell ⟨u1.heap.size, 4, none⟩ (.int .i64 (itemAt (itemsR r) x).gram)).setCell ⟨u1.heap.size, 5, none⟩ (.int .i64 (itemAt (itemsR r) x).cls)).setCell ⟨u1.heap.size, 6, none⟩ (.int .i64 (itemAt (itemsR r) x).cnt)).heap.size := by simpa using Zau2
         have Ksu3 : Hid (Blk (((((((u2.setCell ⟨u1.heap.size, 0, none⟩ (.int .i64 (itemAt (itemsR r) x).id)).setCell ⟨u1.heap.size, 1, none⟩ (.int .i64 (itemAt (itemsR r) x).wd)).setCell ⟨u1.heap.size, 2, none⟩ (.int .i64 (itemAt (itemsR r) x).ht)).setCell ⟨u1.heap.size, 3, none⟩ (.int .i64 (itemAt (itemsR r) x).dp)).setCell ⟨u1.heap.size, 4, none⟩ (.int .i64 (itemAt (itemsR r) x).gram)).setCell ⟨u1.heap.size, 5, none⟩ (.int .i64 (itemAt (itemsR r) x).cls)).setCell ⟨u1.heap.size, 6, none⟩ (.int .i64 (itemAt (itemsR r) x).cnt)) (w.heap.size + 1) [.int .i64 0, .int .i64 0]) := ((((((((unhide Ksu2).other Nqsx).other Nqsx).other Nqsx).other Nqsx).other Nqsx).other Nqsx).other Nqsx)
         have Zsu3 : (w.heap.size + 1) < (((((((u2.setCell ⟨u1.heap.size, 0, none⟩ (.int .i64 (itemAt (itemsR r) x).id)).setCell ⟨u1.heap.size, 1, none⟩ (.int .i64 (itemAt (itemsR r) x).wd)).setCell ⟨u1.heap.size, 2, none⟩ (.int .i64 (itemAt (itemsR r) x).ht)).setCell ⟨u1.heap.size, 3, none⟩ (.int .i64 (itemAt (itemsR r) x).dp)).setCell ⟨u1.heap.size, 4, none⟩ (.int .i64 (itemAt (itemsR r) x).gram)).setCell ⟨u1.heap.size, 5, none⟩ (.int .i64 (itemAt (itemsR r) x).cls)).setCell ⟨u1.heap.size, 6, none⟩ (.int .i64 (itemAt (itemsR r) x).cnt)).heap.size := by simpa using Zsu2
         have Klu3 : Hid (Blk (((((((u2.setCell ⟨u1.heap.size, 0, none⟩ (.int .i64 (itemAt (itemsR r) x).id)).setCell ⟨u1.heap.size, 1, none⟩ (.int .i64 (itemAt (itemsR r) x).wd)).setCell ⟨u1.heap.size, 2, none⟩ (.int .i64 (itemAt (itemsR r) x).ht)).setCell ⟨u1.heap.size, 3, none⟩ (.int .i64 (itemAt (itemsR r) x).dp)).setCell ⟨u1.heap.size, 4, none⟩ (.int .i64 (itemAt (itemsR r) x).gram)).setCell ⟨u1.heap.size, 5, none⟩ (.int .i64 (itemAt (itemsR r) x).cls)).setCell ⟨u1.heap.size, 6, none⟩ (.int .i64 (itemAt (itemsR r) x).cnt)) (w.heap.size + 2) [.int .i64 t, .int .i64 g]) := ((((((((unhide Klu2).other Nqlx).other Nqlx).other Nqlx).other Nqlx).other Nqlx).other Nqlx).other Nqlx)
         have Zlu3 : (w.heap.size + 2) < (((((((u2.setCell ⟨u1.heap.size, 0, none⟩ (.int .i64 (itemAt (itemsR r) x).id)).setCell ⟨u1.heap.size, 1, none⟩ (.int .i64 (itemAt (itemsR r) x).wd)).setCell ⟨u1.heap.size, 2, none⟩ (.int .i64 (itemAt (itemsR r) x).ht)).setCell ⟨u1.heap.size, 3, none⟩ (.int .i64 (itemAt (itemsR r) x).dp)).setCell ⟨u1.heap.size, 4, none⟩ (.int .i64 (itemAt (itemsR r) x).gram)).setCell ⟨u1.heap.size, 5, none⟩ (.int .i64 (itemAt (itemsR r) x).cls)).setCell ⟨u1.heap.size, 6, none⟩ (.int .i64 (itemAt (itemsR r) x).cnt)).heap.size := by simpa using Zlu2
         clear hHeld
         clear Bu2 Kau2 Zau2 Ksu2 Zsu2 Klu2 Zlu2 Kxu2 Zxu2
         generalize (((((((u2.setCell ⟨u1.heap.size, 0, none⟩ (.int .i64 (itemAt (itemsR r) x).id)).setCell ⟨u1.heap.size, 1, none⟩ (.int .i64 (itemAt (itemsR r) x).wd)).setCell ⟨u1.heap.size, 2, none⟩ (.int .i64 (itemAt (itemsR r) x).ht)).setCell ⟨u1.heap.size, 3, none⟩ (.int .i64 (itemAt (itemsR r) x).dp)).setCell ⟨u1.heap.size, 4, none⟩ (.int .i64 (itemAt (itemsR r) x).gram)).setCell ⟨u1.heap.size, 5, none⟩ (.int .i64 (itemAt (itemsR r) x).cls)).setCell ⟨u1.heap.size, 6, none⟩ (.int .i64 (itemAt (itemsR r) x).cnt)) = u3 at *
         have hHeld := hSmk u3 (unhide Kau3) (hcu _ (unhide Bu3))
         refine hK.out _ _ (fun _ => hHeld) ?_
         clear hK K
         try simp only [Act.put, getElem_toArray, getElem_cons_zero, getElem_cons_succ, setIfInBounds_toArray, set_cons_zero, set_cons_succ]
         refine wpTo_take (i := 12) (v := ?_) rfl (by kernel_rfl) (by kernel_rfl) (by kernel_rfl) (by kernel_rfl) (by kernel_rfl) (fun _ _ _ h => h) (Or.inl ⟨by rfl, ?_⟩) (by assumption) ?_
         rotate_left
         · intro w hSw
           have hSw := hSd _ hSw
           (try dsimp only at hSw)
           go_simp <;> with_reducible rfl
         try simp only [Act.put, getElem_toArray, getElem_cons_zero, getElem_cons_succ, setIfInBounds_toArray, set_cons_zero, set_cons_succ]
         refine wpTo_done (by kernel_rfl) ?_ _
         refine NoPanic.normal ?_
         go_wp2_with fail
         go_meet
         case rel => exact ⟨_, rfl, unhide Kxu3, Zxu3, Gx, Nqax, Nqxa, Nqsx, Nqxs, Nqlx, Nqxl, unhide Kau3, Zau3, unhide Ksu3, Zsu3, unhide Klu3, Zlu3, unhide Bu3⟩
        exact AllTo.nil
       exact AllTo.nil
      refine AllTo.cons (o := _) rfl (fun K hK => ?_) ?_
      ·
       (try simp only [getElem_toArray, getElem_cons_zero, getElem_cons_succ])
       have Bu1 := hide ((unhide Bu0).alloc (unhide Bu0).size (.cells #[.int .i64 0, .int .i64 0, .int .i64 0, .int .i64 0, .int .i64 0, .int .i64 0, .int .i64 0] 80))
       have Kxu1 : Hid (Blk (u0.alloc (.cells #[.int .i64 0, .int .i64 0, .int .i64 0, .int .i64 0, .int .i64 0, .int .i64 0, .int .i64 0] 80)) u0.heap.size [.int .i64 0, .int .i64 0, .int .i64 0, .int .i64 0, .int .i64 0, .int .i64 0, .int .i64 0]) := Blk.allocAt [.int .i64 0, .int .i64 0, .int .i64 0, .int .i64 0, .int .i64 0, .int .i64 0, .int .i64 0] rfl
       have Zxu1 := lt_alloc_new u0 (.cells #[.int .i64 0, .int .i64 0, .int .i64 0, .int .i64 0, .int .i64 0, .int .i64 0, .int .i64 0] 80)
       have Gx : w.heap.size ≤ u0.heap.size := (unhide Bu0).size
       have Kau1 := hide ((unhide Kau0).allocOld Zau0 (.cells #[.int .i64 0, .int .i64 0, .int .i64 0, .int .i64 0, .int .i64 0, .int .i64 0, .int .i64 0] 80))
       have Zau1 := lt_alloc Zau0 (.cells #[.int .i64 0, .int .i64 0, .int .i64 0, .int .i64 0, .int .i64 0, .int .i64 0, .int .i64 0] 80)
       have Nqax : w.heap.size ≠ u0.heap.size := Nat.ne_of_lt Zau0
       have Nqxa := Ne.symm Nqax
       have Ksu1 := hide ((unhide Ksu0).allocOld Zsu0 (.cells #[.int .i64 0, .int .i64 0, .int .i64 0, .int .i64 0, .int .i64 0, .int .i64 0, .int .i64 0] 80))
       have Zsu1 := lt_alloc Zsu0 (.cells #[.int .i64 0, .int .i64 0, .int .i64 0, .int .i64 0, .int .i64 0, .int .i64 0, .int .i64 0] 80)
       have Nqsx : (w.heap.size + 1) ≠ u0.heap.size := Nat.ne_of_lt Zsu0
       have Nqxs := Ne.symm Nqsx
       have Klu1 := hide ((unhide Klu0).allocOld Zlu0 (.cells #[.int .i64 0, .int .i64 0, .int .i64 0, .int .i64 0, .int .i64 0, .int .i64 0, .int .i64 0] 80))
       have Zlu1 := lt_alloc Zlu0 (.cells #[.int .i64 0, .int .i64 0, .int .i64 0, .int .i64 0, .int .i64 0, .int .i64 0, .int .i64 0] 80)
       have Nqlx : (w.heap.size + 2) ≠ u0.heap.size := Nat.ne_of_lt Zlu0
       have Nqxl := Ne.symm Nqlx
       go_simp
       clear hHeld
       clear Bu0 Kau0 Zau0 Ksu0 Zsu0 Klu0 Zlu0
       generalize (u0.alloc (.cells #[.int .i64 0, .int .i64 0, .int .i64 0, .int .i64 0, .int .i64 0, .int .i64 0, .int .i64 0] 80)) = u1 at *
       have hHeld := hSmk u1 (unhide Kau1) (hcu _ (unhide Bu1))
       refine hK.out _ _ (fun _ => hHeld) ?_
       clear hK K
       try simp only [Act.put, getElem_toArray, getElem_cons_zero, getElem_cons_succ, setIfInBounds_toArray, set_cons_zero, set_cons_succ]
       refine wpTo_ready (rs := [6]) (by kernel_rfl) (by simp) ?_
       refine AllTo.cons (o := _) rfl (fun K hK => ?_) ?_
       ·
        (try simp only [getElem_toArray, getElem_cons_zero, getElem_cons_succ])
        go_simp
        refine (l6Item_any r h _ _ _ x u1 ((unhide HR).mono (unhide Bu1)) ((unhide HA).mono (unhide Bu1))).mono ?_
        rintro e u2 ⟨bb, rfl, hb⟩
        have Bu2 := hide ((unhide Bu1).trans (hb.mono (unhide Bu1).size))
        have Kau2 := hide (Blk.below hb Zau1 (unhide Kau1))
        have Zau2 := Nat.lt_of_lt_of_le Zau1 hb.size
        have Ksu2 := hide (Blk.below hb Zsu1 (unhide Ksu1))
        have Zsu2 := Nat.lt_of_lt_of_le Zsu1 hb.size
        have Klu2 := hide (Blk.below hb Zlu1 (unhide Klu1))
        have Zlu2 := Nat.lt_of_lt_of_le Zlu1 hb.size
        have Kxu2 := hide (Blk.below hb Zxu1 (unhide Kxu1))
        have Zxu2 := Nat.lt_of_lt_of_le Zxu1 hb.size
        unfold itemVal
        clear hb
        clear Bu1 Kau1 Zau1 Ksu1 Zsu1 Klu1 Zlu1 Kxu1 Zxu1
        clear hHeld
        go_wp2_with fail
        have hHeld := hSmk u2 (unhide Kau2) (hcu _ (unhide Bu2))
        refine hK.out _ _ (fun _ => hHeld) ?_
        clear hK K
        try simp only [Act.put, getElem_toArray, getElem_cons_zero, getElem_cons_succ, setIfInBounds_toArray, set_cons_zero, set_cons_succ]
        refine wpTo_take (i := 7) (v := ?_) rfl (by kernel_rfl) (by kernel_rfl) (by kernel_rfl) (by kernel_rfl) (by kernel_rfl) (fun _ _ _ h => h) (Or.inl ⟨by rfl, ?_⟩) (by assumption) ?_
        rotate_left
        · intro w hSw
          have hSw := hSd _ hSw
          (try dsimp only at hSw)
          go_simp <;> with_reducible rfl
        try simp only [Act.put, getElem_toArray, getElem_cons_zero, getElem_cons_succ, setIfInBounds_toArray, set_cons_zero, set_cons_succ]
        refine wpTo_take (i := 8) (v := ?_) rfl (by kernel_rfl) (by kernel_rfl) (by kernel_rfl) (by kernel_rfl) (by kernel_rfl) (fun _ _ _ h => h) (Or.inl ⟨by rfl, ?_⟩) (by assumption) ?_
        rotate_left
        · intro w hSw
          have hSw := hSd _ hSw
          (try dsimp only at hSw)
          go_simp <;> with_reducible rfl
        try simp only [Act.put, getElem_toArray, getElem_cons_zero, getElem_cons_succ, setIfInBounds_toArray, set_cons_zero, set_cons_succ]
        refine wpTo_take (i := 9) (v := ?_) rfl (by kernel_rfl) (by kernel_rfl) (by kernel_rfl) (by kernel_rfl) (by kernel_rfl) (fun _ _ _ h => h) (Or.inl ⟨by rfl, ?_⟩) (by assumption) ?_
        rotate_left
        · intro w hSw
          have hSw := hSd _ hSw
          (try dsimp only at hSw)
          go_simp <;> with_reducible rfl
        try simp only [Act.put, getElem_toArray, getElem_cons_zero, getElem_cons_succ, setIfInBounds_toArray, set_cons_zero, set_cons_succ]
        refine wpTo_ready (rs := [11]) (by kernel_rfl) (by simp) ?_
        refine AllTo.cons (o := _) rfl (fun K hK => ?_) ?_
        ·
         (try simp only [getElem_toArray, getElem_cons_zero, getElem_cons_succ])
         have p0 := ((unhide Kxu2) 0 (by simp)).1
         have q0 := ((unhide Kxu2) 0 (by simp)).2
         have p1 := ((unhide Kxu2) 1 (by simp)).1
         have q1 := ((unhide Kxu2) 1 (by simp)).2
         have p2 := ((unhide Kxu2) 2 (by simp)).1
         have q2 := ((unhide Kxu2) 2 (by simp)).2
         have p3 := ((unhide Kxu2) 3 (by simp)).1
         have q3 := ((unhide Kxu2) 3 (by simp)).2
         have p4 := ((unhide Kxu2) 4 (by simp)).1
         have q4 := ((unhide Kxu2) 4 (by simp)).2
         have p5 := ((unhide Kxu2) 5 (by simp)).1
         have q5 := ((unhide Kxu2) 5 (by simp)).2
         have p6 := ((unhide Kxu2) 6 (by simp)).1
         have q6 := ((unhide Kxu2) 6 (by simp)).2
         go_simp
         clear p0 q0 p1 q1 p2 q2 p3 q3 p4 q4 p5 q5 p6 q6
         have Bu3 : Hid (Below w.heap.size w (((((((u2.setCell ⟨u0.heap.size, 0, none⟩ (.int .i64 (itemAt (itemsR r) x).id)).setCell ⟨u0.heap.size, 1, none⟩ (.int .i64 (itemAt (itemsR r) x).wd)).setCell ⟨u0.heap.size, 2, none⟩ (.int .i64 (itemAt (itemsR r) x).ht)).setCell ⟨u0.heap.size, 3, none⟩ (.int .i64 (itemAt (itemsR r) x).dp)).setCell ⟨u0.heap.size, 4, none⟩ (.int .i64 (itemAt (itemsR r) x).gram)).setCell ⟨u0.heap.size, 5, none⟩ (.int .i64 (itemAt (itemsR r) x).cls)).setCell ⟨u0.heap.size, 6, none⟩ (.int .i64 (itemAt (itemsR r) x).cnt))) := ((((((((unhide Bu2).setCell Gx _).setCell Gx _).setCell Gx _).setCell Gx _).setCell Gx _).setCell Gx _).setCell Gx _)
         have Kxu3 : Hid (Blk (((((((u2.setCell ⟨u0.heap.size, 0, none⟩ (.int .i64 (itemAt (itemsR r) x).id)).setCell ⟨u0.heap.size, 1, none⟩ (.int .i64 (itemAt (itemsR r) x).wd)).setCell ⟨u0.heap.size, 2, none⟩ (.int .i64 (itemAt (itemsR r) x).ht)).setCell ⟨u0.heap.size, 3, none⟩ (.int .i64 (itemAt (itemsR r) x).dp)).setCell ⟨u0.heap.size, 4, none⟩ (.int .i64 (itemAt (itemsR r) x).gram)).setCell ⟨u0.heap.size, 5, none⟩ (.int .i64 (itemAt (itemsR r) x).cls)).setCell ⟨u0.heap.size, 6, none⟩ (.int .i64 (itemAt (itemsR r) x).cnt)) u0.heap.size [.int .i64 (itemAt (itemsR r) x).id, .int .i64 (itemAt (itemsR r) x).wd, .int .i64 (itemAt (itemsR r) x).ht, .int .i64 (itemAt (itemsR r) x).dp, .int .i64 (itemAt (itemsR r) x).gram, .int .i64 (itemAt (itemsR r) x).cls, .int .i64 (itemAt (itemsR r) x).cnt]) := Blk.fill7 (unhide Kxu2)
         have Zxu3 : u0.heap.size < (((((((u2.setCell ⟨u0.heap.size, 0, none⟩ (.int .i64 (itemAt (itemsR r) x).id)).setCell ⟨u0.heap.size, 1, none⟩ (.int .i64 (itemAt (itemsR r) x).wd)).setCell ⟨u0.heap.size, 2, none⟩ (.int .i64 (itemAt (itemsR r) x).ht)).setCell ⟨u0.heap.size, 3, none⟩ (.int .i64 (itemAt (itemsR r) x).dp)).setCell ⟨u0.heap.size, 4, none⟩ (.int .i64 (itemAt (itemsR r) x).gram)).setCell ⟨u0.heap.size, 5, none⟩ (.int .i64 (itemAt (itemsR r) x).cls)).setCell ⟨u0.heap.size, 6, none⟩ (.int .i64 (itemAt (itemsR r) x).cnt)).heap.size := by simpa using Zxu2
         have Kau3 : Hid (Blk (((((((u2.setCell ⟨u0.heap.size, 0, none⟩ (.int .i64 (itemAt (itemsR r) x).id)).setCell ⟨u0.heap.size, 1, none⟩ (.int .i64 (itemAt (itemsR r) x).wd)).setCell ⟨u0.heap.size, 2, none⟩ (.int .i64 (itemAt (itemsR r) x).ht)).setCell ⟨u0.heap.size, 3, none⟩ (.int .i64 (itemAt (itemsR r) x).dp)).setCell ⟨u0.heap.size, 4, none⟩ (.int .i64 (itemAt (itemsR r) x).gram)).setCell ⟨u0.heap.size, 5, none⟩ (.int .i64 (itemAt (itemsR r) x).cls)).setCell ⟨u0.heap.size, 6, none⟩ (.int .i64 (itemAt (itemsR r) x).cnt)) w.heap.size [.int .i64 r.way, .int .i64 r.pal.wd, .int .i64 r.pal.dp, .int .i64 r.pal.ht, .int .i64 r.pal.gram, .int .i64 r.classes, .slice h.ap r.pairs.length h.cp, .slice h.at' r.types.length h.ct, .int .i64 r.master, .slice h.ai r.items.length h.ci]) := ((((((((unhide Kau2).other Nqax).other Nqax).other Nqax).other Nqax).other Nqax).other Nqax).other Nqax)
         have Zau3 : w.heap.size < (((((((u2.setCell ⟨u0.heap.size, 0, none⟩ (.int .i64 (itemAt (itemsR r) x).id)).setCell ⟨u0.heap.size, 1, none⟩ (.int .i64 (itemAt (itemsR r) x).wd)).setCell ⟨u0.heap.size, 2, none⟩ (.int .i64 (itemAt (itemsR r) x).ht)).setCell ⟨u0.heap.size, 3, none⟩ (.int .i64 (itemAt (itemsR r) x).dp)).setCell ⟨u0.heap.size, 4, none⟩ (.int .i64 (itemAt (itemsR r) x).gram)).setCell ⟨u0.heap.size, 5, none⟩ (.int .i64 (itemAt (itemsR r) x).cls)).setCell ⟨u0.heap.size, 6, none⟩ (.int .i64 (itemAt (itemsR r) x).cnt)).heap.size := by simpa using Zau2
         have Ksu3 : Hid (Blk (((((((u2.setCell ⟨u0.heap.size, 0, none⟩ (.int .i64 (itemAt (itemsR r) x).id)).setCell ⟨u0.heap.size, 1, none⟩ (.int .i64 (itemAt (itemsR r) x).wd)).setCell ⟨u0.heap.size, 2, none⟩ (.int .i64 (itemAt (itemsR r) x).ht)).setCell ⟨u0.heap.size, 3, none⟩ (.int .i64 (itemAt (itemsR r) x).dp)).setCell ⟨u0.heap.size, 4, none⟩ (.int .i64 (itemAt (itemsR r) x).gram)).setCell ⟨u0.heap.size, 5, none⟩ (.int .i64 (itemAt (itemsR r) x).cls)).setCell ⟨u0.heap.size, 6, none⟩ (.int .i64 (itemAt (itemsR r) x).cnt)) (w.heap.size + 1) [.int .i64 0, .int .i64 0]) := ((((((((unhide Ksu2).other Nqsx).other Nqsx).other Nqsx).other Nqsx).other Nqsx).other Nqsx).other Nqsx)
         have Zsu3 : (w.heap.size + 1) < (((((((u2.setCell ⟨u0.heap.size, 0, none⟩ (.int .i64 (itemAt (itemsR r) x).id)).setCell ⟨u0.heap.size, 1, none⟩ (.int .i64 (itemAt (itemsR r) x).wd)).setCell ⟨u0.heap.size, 2, none⟩ (.int .i64 (itemAt (itemsR r) x).ht)).setCell ⟨u0.heap.size, 3, none⟩ (.int .i64 (itemAt (itemsR r) x).dp)).setCell ⟨u0.heap.size, 4, none⟩ (.int .i64 (itemAt (itemsR r) x).gram)).setCell ⟨u0.heap.size, 5, none⟩ (.int .i64 (itemAt (itemsR r) x).cls)).setCell ⟨u0.heap.size, 6, none⟩ (.int .i64 (itemAt (itemsR r) x).cnt)).heap.size := by simpa using Zsu2
         have Klu3 : Hid (Blk (((((((u2.setCell ⟨u0.heap.size, 0, none⟩ (.int .i64 (itemAt (itemsR r) x).id)).setCell ⟨u0.heap.size, 1, none⟩ (.int .i64 (itemAt (itemsR r) x).wd)).setCell ⟨u0.heap.size, 2, none⟩ (.int .i64 (itemAt (itemsR r) x).ht)).setCell ⟨u0.heap.size, 3, none⟩ (.int .i64 (itemAt (itemsR r) x).dp)).setCell ⟨u0.heap.size, 4, none⟩ (.int .i64 (itemAt (itemsR r) x).gram)).setCell ⟨u0.heap.size, 5, none⟩ (.int .i64 (itemAt (itemsR r) x).cls)).setCell ⟨u0.heap.size, 6, none⟩ (.int .i64 (itemAt (itemsR r) x).cnt)) (w.heap.size + 2) [.int .i64 t, .int .i64 g]) := ((((((((unhide Klu2).other Nqlx).other Nqlx).other Nqlx).other Nqlx).other Nqlx).other Nqlx).other Nqlx)
         have Zlu3 : (w.heap.size + 2) < (((((((u2.setCell ⟨u0.heap.size, 0, none⟩ (.int .i64 (itemAt (itemsR r) x).id)).setCell ⟨u0.heap.size, 1, none⟩ (.int .i64 (itemAt (itemsR r) x).wd)).setCell ⟨u0.heap.size, 2, none⟩ (.int .i64 (itemAt (itemsR r) x).ht)).setCell ⟨u0.heap.size, 3, none⟩ (.int .i64 (itemAt (itemsR r) x).dp)).setCell ⟨u0.heap.size, 4, none⟩ (.int .i64 (itemAt (itemsR r) x).gram)).setCell ⟨u0.heap.size, 5, none⟩ (.int .i64 (itemAt (itemsR r) x).cls)).setCell ⟨u0.heap.size, 6, none⟩ (.int .i64 (itemAt (itemsR r) x).cnt)).heap.size := by simpa using Zlu2
         clear hHeld
         clear Bu2 Kau2 Zau2 Ksu2 Zsu2 Klu2 Zlu2 Kxu2 Zxu2
         generalize (((((((u2.setCell ⟨u0.heap.size, 0, none⟩ (.int .i64 (itemAt (itemsR r) x).id)).setCell ⟨u0.heap.size, 1, none⟩ (.int .i64 (itemAt (itemsR r) x).wd)).setCell ⟨u0.heap.size, 2, none⟩ (.int .i64 (itemAt (itemsR r) x).ht)).setCell ⟨u0.heap.size, 3, none⟩ (.int .i64 (itemAt (itemsR r) x).dp)).setCell ⟨u0.heap.size, 4, none⟩ (.int .i64 (itemAt (itemsR r) x).gram)).setCell ⟨u0.heap.size, 5, none⟩ (.int .i64 (itemAt (itemsR r) x).cls)).setCell ⟨u0.heap.size, 6, none⟩ (.int .i64 (itemAt (itemsR r) x).cnt)) = u3 at *
         have hHeld := hSmk u3 (unhide Kau3) (hcu _ (unhide Bu3))
         refine hK.out _ _ (fun _ => hHeld) ?_
         clear hK K
         try simp only [Act.put, getElem_toArray, getElem_cons_zero, getElem_cons_succ, setIfInBounds_toArray, set_cons_zero, set_cons_succ]
         refine wpTo_take (i := 12) (v := ?_) rfl (by kernel_rfl) (by kernel_rfl) (by kernel_rfl) (by kernel_rfl) (by kernel_rfl) (fun _ _ _ h => h) (Or.inl ⟨by rfl, ?_⟩) (by assumption) ?_
         rotate_left
         · intro w hSw
           have hSw := hSd _ hSw
           (try dsimp only at hSw)
           go_simp <;> with_reducible rfl
         try simp only [Act.put, getElem_toArray, getElem_cons_zero, getElem_cons_succ, setIfInBounds_toArray, set_cons_zero, set_cons_succ]
         refine wpTo_done (by kernel_rfl) ?_ _
         refine NoPanic.normal ?_
         go_wp2_with fail
         go_meet
         case rel => exact ⟨_, rfl, unhide Kxu3, Zxu3, Gx, Nqax, Nqxa, Nqsx, Nqxs, Nqlx, Nqxl, unhide Kau3, Zau3, unhide Ksu3, Zsu3, unhide Klu3, Zlu3, unhide Bu3⟩
        exact AllTo.nil
       exact AllTo.nil
      exact AllTo.nil
    case rest =>
      clear Bwr Kawr Kswr Klwr Zawr Zswr Zlwr
      obtain ⟨gx, rfl, kx, Zxwc, Gx, Nqax, Nqxa, Nqsx, Nqxs, Nqlx, Nqxl, ka, Zawc, ks, Zswc, kl, Zlwc, hb⟩ := hcut
      have Bwc := hide hb
      have Kxwc := hide kx
      have Kawc := hide ka
      have Kswc := hide ks
      have Klwc := hide kl
      clear hb kx ka ks kl hcu
      go_upto_region 6 with fail
      go_cut [8] (fun v wd => v = .int .i64 k ∧ Blk wd gx [.int .i64 (itemAt (itemsR r) x).id, .int .i64 (itemAt (itemsR r) x).wd, .int .i64 (itemAt (itemsR r) x).ht, .int .i64 (itemAt (itemsR r) x).dp, .int .i64 (itemAt (itemsR r) x).gram, .int .i64 (itemAt (itemsR r) x).cls, .int .i64 (itemAt (itemsR r) x).cnt] ∧ gx < wd.heap.size ∧ Blk wd w.heap.size [.int .i64 r.way, .int .i64 r.pal.wd, .int .i64 r.pal.dp, .int .i64 r.pal.ht, .int .i64 r.pal.gram, .int .i64 r.classes, .slice h.ap r.pairs.length h.cp, .slice h.at' r.types.length h.ct, .int .i64 r.master, .slice h.ai r.items.length h.ci] ∧ w.heap.size < wd.heap.size ∧ Blk wd (w.heap.size + 1) [.int .i64 0, .int .i64 0] ∧ (w.heap.size + 1) < wd.heap.size ∧ Blk wd (w.heap.size + 2) [.int .i64 (t + vol (itemAt (itemsR r) x).wd (itemAt (itemsR r) x).ht (itemAt (itemsR r) x).dp), .int .i64 g] ∧ (w.heap.size + 2) < wd.heap.size ∧ Below w.heap.size w wd)
      case first =>
        refine wp_region_noPanic ?_
        have Bu0 : Hid (Below w.heap.size w wc.drew) := (unhide Bwc).drew
        have Kau0 : Hid (Blk wc.drew w.heap.size [.int .i64 r.way, .int .i64 r.pal.wd, .int .i64 r.pal.dp, .int .i64 r.pal.ht, .int .i64 r.pal.gram, .int .i64 r.classes, .slice h.ap r.pairs.length h.cp, .slice h.at' r.types.length h.ct, .int .i64 r.master, .slice h.ai r.items.length h.ci]) := unhide Kawc
        have Zau0 : w.heap.size < wc.drew.heap.size := Zawc
        have Ksu0 : Hid (Blk wc.drew (w.heap.size + 1) [.int .i64 0, .int .i64 0]) := unhide Kswc
        have Zsu0 : (w.heap.size + 1) < wc.drew.heap.size := Zswc
        have Klu0 : Hid (Blk wc.drew (w.heap.size + 2) [.int .i64 t, .int .i64 g]) := unhide Klwc
        have Zlu0 : (w.heap.size + 2) < wc.drew.heap.size := Zlwc
        have Kxu0 : Hid (Blk wc.drew gx [.int .i64 (itemAt (itemsR r) x).id, .int .i64 (itemAt (itemsR r) x).wd, .int .i64 (itemAt (itemsR r) x).ht, .int .i64 (itemAt (itemsR r) x).dp, .int .i64 (itemAt (itemsR r) x).gram, .int .i64 (itemAt (itemsR r) x).cls, .int .i64 (itemAt (itemsR r) x).cnt]) := unhide Kxwc
        have Zxu0 : gx < wc.drew.heap.size := Zxwc
        obtain ⟨S, hSdef⟩ : ∃ S : World → Prop, S = (fun w' => w'.cell? ⟨(w.heap.size + 2), 0, none⟩ = some (.int .i64 t) ∧ w'.cell? ⟨gx, 1, none⟩ = some (.int .i64 (itemAt (itemsR r) x).wd) ∧ w'.cell? ⟨gx, 2, none⟩ = some (.int .i64 (itemAt (itemsR r) x).ht) ∧ w'.cell? ⟨gx, 3, none⟩ = some (.int .i64 (itemAt (itemsR r) x).dp)) := ⟨_, rfl⟩
        have hSmk : ∀ wq, Blk wq (w.heap.size + 2) [.int .i64 t, .int .i64 g] → Blk wq gx [.int .i64 (itemAt (itemsR r) x).id, .int .i64 (itemAt (itemsR r) x).wd, .int .i64 (itemAt (itemsR r) x).ht, .int .i64 (itemAt (itemsR r) x).dp, .int .i64 (itemAt (itemsR r) x).gram, .int .i64 (itemAt (itemsR r) x).cls, .int .i64 (itemAt (itemsR r) x).cnt] → S wq := fun wq kl kx => by rw [hSdef]; exact ⟨(kl 0 (by simp)).1, (kx 1 (by simp)).1, (kx 2 (by simp)).1, (kx 3 (by simp)).1⟩
        have hSd : ∀ wq, S wq → (fun w' => w'.cell? ⟨(w.heap.size + 2), 0, none⟩ = some (.int .i64 t) ∧ w'.cell? ⟨gx, 1, none⟩ = some (.int .i64 (itemAt (itemsR r) x).wd) ∧ w'.cell? ⟨gx, 2, none⟩ = some (.int .i64 (itemAt (itemsR r) x).ht) ∧ w'.cell? ⟨gx, 3, none⟩ = some (.int .i64 (itemAt (itemsR r) x).dp)) wq := fun wq h => by rw [hSdef] at h; exact h
        clear hSdef
        have hHeld : S wc.drew := hSmk wc.drew (unhide Klu0) (unhide Kxu0)
        refine wp_region_to (S := S) (T := [11]) (by kernel_rfl) hHeld (fun _ => ?_)
        generalize wc.drew = u0 at *
        refine wpTo_take (i := 0) (v := ?_) rfl (by kernel_rfl) (by kernel_rfl) (by kernel_rfl) (by kernel_rfl) (by kernel_rfl) (fun _ _ _ h => h) (Or.inl ⟨by rfl, ?_⟩) (by assumption) ?_
        rotate_left
        · intro w hSw
          have hSw := hSd _ hSw
          (try dsimp only at hSw)
          go_simp <;> with_reducible rfl
        try simp only [Act.put, getElem_toArray, getElem_cons_zero, getElem_cons_succ, setIfInBounds_toArray, set_cons_zero, set_cons_succ]
        refine wpTo_take (i := 1) (v := ?_) rfl (by kernel_rfl) (by kernel_rfl) (by kernel_rfl) (by kernel_rfl) (by kernel_rfl) (fun _ _ _ h => h) (Or.inl ⟨by rfl, ?_⟩) (by assumption) ?_
        rotate_left
        · intro w hSw
          have hSw := hSd _ hSw
          (try dsimp only at hSw)
          go_simp <;> with_reducible rfl
        try simp only [Act.put, getElem_toArray, getElem_cons_zero, getElem_cons_succ, setIfInBounds_toArray, set_cons_zero, set_cons_succ]
        refine wpTo_take (i := 2) (v := ?_) rfl (by kernel_rfl) (by kernel_rfl) (by kernel_rfl) (by kernel_rfl) (by kernel_rfl) (fun _ _ _ h => h) (Or.inl ⟨by rfl, ?_⟩) (by assumption) ?_
        rotate_left
        · intro w hSw
          have hSw := hSd _ hSw
          (try dsimp only at hSw)
          go_simp <;> with_reducible rfl
        try simp only [Act.put, getElem_toArray, getElem_cons_zero, getElem_cons_succ, setIfInBounds_toArray, set_cons_zero, set_cons_succ]
        refine wpTo_take (i := 3) (v := ?_) rfl (by kernel_rfl) (by kernel_rfl) (by kernel_rfl) (by kernel_rfl) (by kernel_rfl) (fun _ _ _ h => h) (Or.inl ⟨by rfl, ?_⟩) (by assumption) ?_
        rotate_left
        · intro w hSw
          have hSw := hSd _ hSw
          (try dsimp only at hSw)
          go_simp <;> with_reducible rfl
        try simp only [Act.put, getElem_toArray, getElem_cons_zero, getElem_cons_succ, setIfInBounds_toArray, set_cons_zero, set_cons_succ]
        refine wpTo_take (i := 4) (v := ?_) rfl (by kernel_rfl) (by kernel_rfl) (by kernel_rfl) (by kernel_rfl) (by kernel_rfl) (fun _ _ _ h => h) (Or.inl ⟨by rfl, ?_⟩) (by assumption) ?_
        rotate_left
        · intro w hSw
          have hSw := hSd _ hSw
          (try dsimp only at hSw)
          go_simp <;> with_reducible rfl
        try simp only [Act.put, getElem_toArray, getElem_cons_zero, getElem_cons_succ, setIfInBounds_toArray, set_cons_zero, set_cons_succ]
        refine wpTo_take (i := 5) (v := ?_) rfl (by kernel_rfl) (by kernel_rfl) (by kernel_rfl) (by kernel_rfl) (by kernel_rfl) (fun _ _ _ h => h) (Or.inl ⟨by rfl, ?_⟩) (by assumption) ?_
        rotate_left
        · intro w hSw
          have hSw := hSd _ hSw
          (try dsimp only at hSw)
          go_simp <;> with_reducible rfl
        try simp only [Act.put, getElem_toArray, getElem_cons_zero, getElem_cons_succ, setIfInBounds_toArray, set_cons_zero, set_cons_succ]
        refine wpTo_take (i := 6) (v := ?_) rfl (by kernel_rfl) (by kernel_rfl) (by kernel_rfl) (by kernel_rfl) (by kernel_rfl) (fun _ _ _ h => h) (Or.inl ⟨by rfl, ?_⟩) (by assumption) ?_
        rotate_left
        · intro w hSw
          have hSw := hSd _ hSw
          (try dsimp only at hSw)
          go_simp <;> with_reducible rfl
        try simp only [Act.put, getElem_toArray, getElem_cons_zero, getElem_cons_succ, setIfInBounds_toArray, set_cons_zero, set_cons_succ]
        refine wpTo_take (i := 7) (v := ?_) rfl (by kernel_rfl) (by kernel_rfl) (by kernel_rfl) (by kernel_rfl) (by kernel_rfl) (fun _ _ _ h => h) (Or.inl ⟨by rfl, ?_⟩) (by assumption) ?_
        rotate_left
        · intro w hSw
          have hSw := hSd _ hSw
          (try dsimp only at hSw)
          go_simp <;> with_reducible rfl
        try simp only [Act.put, getElem_toArray, getElem_cons_zero, getElem_cons_succ, setIfInBounds_toArray, set_cons_zero, set_cons_succ]
        refine wpTo_ready (rs := [8]) (by kernel_rfl) (by simp) ?_
        refine AllTo.cons (o := _) rfl (fun K hK => ?_) ?_
        ·
         (try simp only [getElem_toArray, getElem_cons_zero, getElem_cons_succ])
         go_simp
         refine (specVolume_any _ _ _ _).mono ?_
         rintro e wz ⟨rfl, hwz⟩
         subst wz
         go_wp2_with fail
         have hHeld := hSmk u0 (unhide Klu0) (unhide Kxu0)
         refine hK.out _ _ (fun _ => hHeld) ?_
         clear hK K
         try simp only [Act.put, getElem_toArray, getElem_cons_zero, getElem_cons_succ, setIfInBounds_toArray, set_cons_zero, set_cons_succ]
         refine wpTo_take (i := 9) (v := ?_) rfl (by kernel_rfl) (by kernel_rfl) (by kernel_rfl) (by kernel_rfl) (by kernel_rfl) (fun _ _ _ h => h) (Or.inl ⟨by rfl, ?_⟩) (by assumption) ?_
         rotate_left
         · intro w hSw
           have hSw := hSd _ hSw
           (try dsimp only at hSw)
           go_simp <;> with_reducible rfl
         try simp only [Act.put, getElem_toArray, getElem_cons_zero, getElem_cons_succ, setIfInBounds_toArray, set_cons_zero, set_cons_succ]
         rw [wrap_fits (x := t + vol (itemAt (itemsR r) x).wd (itemAt (itemsR r) x).ht (itemAt (itemsR r) x).dp) (by have := unhide HTB; omega) (by have := unhide HTB; omega)]
         refine wpTo_take (i := 10) (v := ?_) rfl (by kernel_rfl) (by kernel_rfl) (by kernel_rfl) (by kernel_rfl) (by kernel_rfl) (fun _ _ _ h => h) (Or.inl ⟨by rfl, ?_⟩) (by assumption) ?_
         rotate_left
         · intro w hSw
           have hSw := hSd _ hSw
           (try dsimp only at hSw)
           go_simp <;> with_reducible rfl
         try simp only [Act.put, getElem_toArray, getElem_cons_zero, getElem_cons_succ, setIfInBounds_toArray, set_cons_zero, set_cons_succ]
         refine wpTo_ready (rs := [11]) (by kernel_rfl) (by simp) ?_
         refine AllTo.cons (o := _) rfl (fun K hK => ?_) ?_
         ·
          (try simp only [getElem_toArray, getElem_cons_zero, getElem_cons_succ])
          have p0 := ((unhide Klu0) 0 (by simp)).1
          have q0 := ((unhide Klu0) 0 (by simp)).2
          go_simp
          clear p0 q0
          have Bu1 : Hid (Below w.heap.size w (u0.setCell ⟨(w.heap.size + 2), 0, none⟩ (.int .i64 (t + vol (itemAt (itemsR r) x).wd (itemAt (itemsR r) x).ht (itemAt (itemsR r) x).dp)))) := (unhide Bu0).setCell Gl _
          have Klu1 : Hid (Blk (u0.setCell ⟨(w.heap.size + 2), 0, none⟩ (.int .i64 (t + vol (itemAt (itemsR r) x).wd (itemAt (itemsR r) x).ht (itemAt (itemsR r) x).dp))) (w.heap.size + 2) [.int .i64 (t + vol (itemAt (itemsR r) x).wd (itemAt (itemsR r) x).ht (itemAt (itemsR r) x).dp), .int .i64 g]) := (unhide Klu0).set (j := 0) (v := .int .i64 (t + vol (itemAt (itemsR r) x).wd (itemAt (itemsR r) x).ht (itemAt (itemsR r) x).dp)) (by simp)
          have Zlu1 : (w.heap.size + 2) < (u0.setCell ⟨(w.heap.size + 2), 0, none⟩ (.int .i64 (t + vol (itemAt (itemsR r) x).wd (itemAt (itemsR r) x).ht (itemAt (itemsR r) x).dp))).heap.size := by simpa using Zlu0
          have Kau1 : Hid (Blk (u0.setCell ⟨(w.heap.size + 2), 0, none⟩ (.int .i64 (t + vol (itemAt (itemsR r) x).wd (itemAt (itemsR r) x).ht (itemAt (itemsR r) x).dp))) w.heap.size [.int .i64 r.way, .int .i64 r.pal.wd, .int .i64 r.pal.dp, .int .i64 r.pal.ht, .int .i64 r.pal.gram, .int .i64 r.classes, .slice h.ap r.pairs.length h.cp, .slice h.at' r.types.length h.ct, .int .i64 r.master, .slice h.ai r.items.length h.ci]) := (unhide Kau0).other Nqal
          have Zau1 : w.heap.size < (u0.setCell ⟨(w.heap.size + 2), 0, none⟩ (.int .i64 (t + vol (itemAt (itemsR r) x).wd (itemAt (itemsR r) x).ht (itemAt (itemsR r) x).dp))).heap.size := by simpa using Zau0
          have Ksu1 : Hid (Blk (u0.setCell ⟨(w.heap.size + 2), 0, none⟩ (.int .i64 (t + vol (itemAt (itemsR r) x).wd (itemAt (itemsR r) x).ht (itemAt (itemsR r) x).dp))) (w.heap.size + 1) [.int .i64 0, .int .i64 0]) := (unhide Ksu0).other Nqsl
          have Zsu1 : (w.heap.size + 1) < (u0.setCell ⟨(w.heap.size + 2), 0, none⟩ (.int .i64 (t + vol (itemAt (itemsR r) x).wd (itemAt (itemsR r) x).ht (itemAt (itemsR r) x).dp))).heap.size := by simpa using Zsu0
          have Kxu1 : Hid (Blk (u0.setCell ⟨(w.heap.size + 2), 0, none⟩ (.int .i64 (t + vol (itemAt (itemsR r) x).wd (itemAt (itemsR r) x).ht (itemAt (itemsR r) x).dp))) gx [.int .i64 (itemAt (itemsR r) x).id, .int .i64 (itemAt (itemsR r) x).wd, .int .i64 (itemAt (itemsR r) x).ht, .int .i64 (itemAt (itemsR r) x).dp, .int .i64 (itemAt (itemsR r) x).gram, .int .i64 (itemAt (itemsR r) x).cls, .int .i64 (itemAt (itemsR r) x).cnt]) := (unhide Kxu0).other Nqxl
          have Zxu1 : gx < (u0.setCell ⟨(w.heap.size + 2), 0, none⟩ (.int .i64 (t + vol (itemAt (itemsR r) x).wd (itemAt (itemsR r) x).ht (itemAt (itemsR r) x).dp))).heap.size := by simpa using Zxu0
          clear hHeld
          clear Bu0 Kau0 Zau0 Ksu0 Zsu0 Klu0 Zlu0 Kxu0 Zxu0
          generalize (u0.setCell ⟨(w.heap.size + 2), 0, none⟩ (.int .i64 (t + vol (itemAt (itemsR r) x).wd (itemAt (itemsR r) x).ht (itemAt (itemsR r) x).dp))) = u1 at *
          refine hK.out _ _ (fun hn => absurd (by decide) hn) ?_
          clear hK K
          try simp only [Act.put, getElem_toArray, getElem_cons_zero, getElem_cons_succ, setIfInBounds_toArray, set_cons_zero, set_cons_succ]
          refine wpTo_done (by kernel_rfl) ?_ _
          refine NoPanic.normal ?_
          go_wp2_with fail
          go_meet
          case rel => exact ⟨rfl, unhide Kxu1, Zxu1, unhide Kau1, Zau1, unhide Ksu1, Zsu1, unhide Klu1, Zlu1, unhide Bu1⟩
         exact AllTo.nil
        exact AllTo.nil
      case rest =>
        clear Bwc Kawc Kswc Klwc Zawc Zswc Zlwc Kxwc Zxwc
        obtain ⟨rfl, kx, zx, ka, za, ks, zs, kl, zl, hb⟩ := hcut
        have HKL := hide kl
        have HKA := hide ka
        have HKS := hide ks
        have HBD := hide hb
        have HTB0 := unhide HTB
        obtain ⟨t0, t1, g0, g1, v0, v1, q0, q1⟩ := HTB0
        have cl1 : wc.cell? ⟨w.heap.size + 2, 1, none⟩ = some (.int .i64 g) := (kl 1 (by simp)).1
        have fl1 : wc.frozen? ⟨w.heap.size + 2, 1, none⟩ = false := (kl 1 (by simp)).2
        have cx4 : wc.cell? ⟨gx, 4, none⟩ = some (.int .i64 (itemAt (itemsR r) x).gram) := (kx 4 (by simp)).1
        clear kl ka ks hb kx
        go_wp2
        go_roundw
        case rel => exact ⟨k + 1, t + vol (itemAt (itemsR r) x).wd (itemAt (itemsR r) x).ht (itemAt (itemsR r) x).dp, g + (itemAt (itemsR r) x).gram, by omega, by go_num, by rw [unhide HST, ← unhide HT, unhide HVQ], by rw [unhide HSG, ← unhide HGG, unhide HGQ], (unhide HKA).other Nqal, by simpa using za, (unhide HKS).other Nqsl, by simpa using zs, (unhide HKL).set (j := 1) (v := .int .i64 (g + (itemAt (itemsR r) x).gram)) (by simp), by simpa using zl, (unhide HBD).setCell (p := ⟨w.heap.size + 2, 1, none⟩) Gl _⟩
        case measure => simp [intOf]; omega

open List in
set_option maxRecDepth 100000 in
set_option maxHeartbeats 4000000 in
theorem l7Room_any (r : ReqV) (h : ReqH) (aa : Option Addr) (na ca : Nat) (t : TypeV) (b off n c : Nat) (us : List Int) (u : Int) (w : World) (hr : RdReq w r h) (ha : Rd w aa na (unitsR r)) (hu : Rd w (some ⟨b, off, none⟩) n us) (hn : n ≤ 1048590) :
    Calls Tryz.prog 54 #[reqVal r h, .slice aa na ca, .agg #[.int .i64 t.id, .int .i64 t.wd, .int .i64 t.ht, .int .i64 t.dp, .int .i64 t.tare, .int .i64 t.gram, .int .i64 t.cost], .slice (some ⟨b, off, none⟩) n c, .int .i64 u] w fun e w' => e = .returned (.bool (roomB (itemsR r) t us u)) ∧ Below w.heap.size w w' := by
  obtain ⟨i0, hi, hz0, hz1, hz2⟩ := info_parts Tryz.infoInt
  have HR := hide hr
  have HA := hide ha
  have HU := hide hu
  have HE := hide (roomB_snoc (itemsR r) t us u)
  clear hr ha hu
  unfold reqVal
  go_enter Tryz.func54, Tryz.ntmps54
  go_wp2_with fail
  have BwA : Hid (Below w.heap.size w ((w.alloc (.cells #[.int .i64 r.way, .int .i64 r.pal.wd, .int .i64 r.pal.dp, .int .i64 r.pal.ht, .int .i64 r.pal.gram, .int .i64 r.classes, .slice h.ap r.pairs.length h.cp, .slice h.at' r.types.length h.ct, .int .i64 r.master, .slice h.ai r.items.length h.ci] 30)).alloc (.cells #[.int .i64 t.id, .int .i64 t.wd, .int .i64 t.ht, .int .i64 t.dp, .int .i64 t.tare, .int .i64 t.gram, .int .i64 t.cost] 41))) := (((Below.refl _ _).alloc (by simp) _).alloc (by simp) _)
  have KawA : Hid (Blk ((w.alloc (.cells #[.int .i64 r.way, .int .i64 r.pal.wd, .int .i64 r.pal.dp, .int .i64 r.pal.ht, .int .i64 r.pal.gram, .int .i64 r.classes, .slice h.ap r.pairs.length h.cp, .slice h.at' r.types.length h.ct, .int .i64 r.master, .slice h.ai r.items.length h.ci] 30)).alloc (.cells #[.int .i64 t.id, .int .i64 t.wd, .int .i64 t.ht, .int .i64 t.dp, .int .i64 t.tare, .int .i64 t.gram, .int .i64 t.cost] 41)) w.heap.size [.int .i64 r.way, .int .i64 r.pal.wd, .int .i64 r.pal.dp, .int .i64 r.pal.ht, .int .i64 r.pal.gram, .int .i64 r.classes, .slice h.ap r.pairs.length h.cp, .slice h.at' r.types.length h.ct, .int .i64 r.master, .slice h.ai r.items.length h.ci]) := ((Blk.allocAt (w := w) [.int .i64 r.way, .int .i64 r.pal.wd, .int .i64 r.pal.dp, .int .i64 r.pal.ht, .int .i64 r.pal.gram, .int .i64 r.classes, .slice h.ap r.pairs.length h.cp, .slice h.at' r.types.length h.ct, .int .i64 r.master, .slice h.ai r.items.length h.ci] (by simp)).allocOld (by simp) _)
  have ZawA : w.heap.size < ((w.alloc (.cells #[.int .i64 r.way, .int .i64 r.pal.wd, .int .i64 r.pal.dp, .int .i64 r.pal.ht, .int .i64 r.pal.gram, .int .i64 r.classes, .slice h.ap r.pairs.length h.cp, .slice h.at' r.types.length h.ct, .int .i64 r.master, .slice h.ai r.items.length h.ci] 30)).alloc (.cells #[.int .i64 t.id, .int .i64 t.wd, .int .i64 t.ht, .int .i64 t.dp, .int .i64 t.tare, .int .i64 t.gram, .int .i64 t.cost] 41)).heap.size := by simp <;> omega
  have Ga : w.heap.size ≤ w.heap.size := by omega
  have KtwA : Hid (Blk ((w.alloc (.cells #[.int .i64 r.way, .int .i64 r.pal.wd, .int .i64 r.pal.dp, .int .i64 r.pal.ht, .int .i64 r.pal.gram, .int .i64 r.classes, .slice h.ap r.pairs.length h.cp, .slice h.at' r.types.length h.ct, .int .i64 r.master, .slice h.ai r.items.length h.ci] 30)).alloc (.cells #[.int .i64 t.id, .int .i64 t.wd, .int .i64 t.ht, .int .i64 t.dp, .int .i64 t.tare, .int .i64 t.gram, .int .i64 t.cost] 41)) (w.heap.size + 1) [.int .i64 t.id, .int .i64 t.wd, .int .i64 t.ht, .int .i64 t.dp, .int .i64 t.tare, .int .i64 t.gram, .int .i64 t.cost]) := (Blk.allocAt (w := (w.alloc (.cells #[.int .i64 r.way, .int .i64 r.pal.wd, .int .i64 r.pal.dp, .int .i64 r.pal.ht, .int .i64 r.pal.gram, .int .i64 r.classes, .slice h.ap r.pairs.length h.cp, .slice h.at' r.types.length h.ct, .int .i64 r.master, .slice h.ai r.items.length h.ci] 30))) [.int .i64 t.id, .int .i64 t.wd, .int .i64 t.ht, .int .i64 t.dp, .int .i64 t.tare, .int .i64 t.gram, .int .i64 t.cost] (by simp))
  have ZtwA : (w.heap.size + 1) < ((w.alloc (.cells #[.int .i64 r.way, .int .i64 r.pal.wd, .int .i64 r.pal.dp, .int .i64 r.pal.ht, .int .i64 r.pal.gram, .int .i64 r.classes, .slice h.ap r.pairs.length h.cp, .slice h.at' r.types.length h.ct, .int .i64 r.master, .slice h.ai r.items.length h.ci] 30)).alloc (.cells #[.int .i64 t.id, .int .i64 t.wd, .int .i64 t.ht, .int .i64 t.dp, .int .i64 t.tare, .int .i64 t.gram, .int .i64 t.cost] 41)).heap.size := by simp
  have Gt : w.heap.size ≤ (w.heap.size + 1) := by omega
  generalize ((w.alloc (.cells #[.int .i64 r.way, .int .i64 r.pal.wd, .int .i64 r.pal.dp, .int .i64 r.pal.ht, .int .i64 r.pal.gram, .int .i64 r.classes, .slice h.ap r.pairs.length h.cp, .slice h.at' r.types.length h.ct, .int .i64 r.master, .slice h.ai r.items.length h.ci] 30)).alloc (.cells #[.int .i64 t.id, .int .i64 t.wd, .int .i64 t.ht, .int .i64 t.dp, .int .i64 t.tare, .int .i64 t.gram, .int .i64 t.cost] 41)) = wA at *
  go_cut [11] (fun v wc => ∃ gl, v = .pointer (some ⟨gl, 0, none⟩) ∧ Blk wc gl [.int .i64 (volOf (itemsR r) (us ++ [u])), .int .i64 (gramOf (itemsR r) (us ++ [u]))] ∧ Blk wc (w.heap.size + 1) [.int .i64 t.id, .int .i64 t.wd, .int .i64 t.ht, .int .i64 t.dp, .int .i64 t.tare, .int .i64 t.gram, .int .i64 t.cost] ∧ Below w.heap.size w wc)
  case first =>
    refine wp_region_noPanic ?_
    have Bu0 : Hid (Below w.heap.size w wA.drew) := (unhide BwA).drew
    have Kau0 : Hid (Blk wA.drew w.heap.size [.int .i64 r.way, .int .i64 r.pal.wd, .int .i64 r.pal.dp, .int .i64 r.pal.ht, .int .i64 r.pal.gram, .int .i64 r.classes, .slice h.ap r.pairs.length h.cp, .slice h.at' r.types.length h.ct, .int .i64 r.master, .slice h.ai r.items.length h.ci]) := unhide KawA
    have Zau0 : w.heap.size < wA.drew.heap.size := ZawA
    have Ktu0 : Hid (Blk wA.drew (w.heap.size + 1) [.int .i64 t.id, .int .i64 t.wd, .int .i64 t.ht, .int .i64 t.dp, .int .i64 t.tare, .int .i64 t.gram, .int .i64 t.cost]) := unhide KtwA
    have Ztu0 : (w.heap.size + 1) < wA.drew.heap.size := ZtwA
    obtain ⟨S, hSdef⟩ : ∃ S : World → Prop, S = (fun w' => w'.cell? ⟨w.heap.size, 0, none⟩ = some (.int .i64 r.way) ∧ w'.cell? ⟨w.heap.size, 1, none⟩ = some (.int .i64 r.pal.wd) ∧ w'.cell? ⟨w.heap.size, 2, none⟩ = some (.int .i64 r.pal.dp) ∧ w'.cell? ⟨w.heap.size, 3, none⟩ = some (.int .i64 r.pal.ht) ∧ w'.cell? ⟨w.heap.size, 4, none⟩ = some (.int .i64 r.pal.gram) ∧ w'.cell? ⟨w.heap.size, 5, none⟩ = some (.int .i64 r.classes) ∧ w'.cell? ⟨w.heap.size, 6, none⟩ = some (.slice h.ap r.pairs.length h.cp) ∧ w'.cell? ⟨w.heap.size, 7, none⟩ = some (.slice h.at' r.types.length h.ct) ∧ w'.cell? ⟨w.heap.size, 8, none⟩ = some (.int .i64 r.master) ∧ w'.cell? ⟨w.heap.size, 9, none⟩ = some (.slice h.ai r.items.length h.ci)) := ⟨_, rfl⟩
    have hSmk : ∀ wq, Blk wq w.heap.size [.int .i64 r.way, .int .i64 r.pal.wd, .int .i64 r.pal.dp, .int .i64 r.pal.ht, .int .i64 r.pal.gram, .int .i64 r.classes, .slice h.ap r.pairs.length h.cp, .slice h.at' r.types.length h.ct, .int .i64 r.master, .slice h.ai r.items.length h.ci] → S wq := fun wq ka => by rw [hSdef]; exact ⟨(ka 0 (by simp)).1, (ka 1 (by simp)).1, (ka 2 (by simp)).1, (ka 3 (by simp)).1, (ka 4 (by simp)).1, (ka 5 (by simp)).1, (ka 6 (by simp)).1, (ka 7 (by simp)).1, (ka 8 (by simp)).1, (ka 9 (by simp)).1⟩
    have hSd : ∀ wq, S wq → (fun w' => w'.cell? ⟨w.heap.size, 0, none⟩ = some (.int .i64 r.way) ∧ w'.cell? ⟨w.heap.size, 1, none⟩ = some (.int .i64 r.pal.wd) ∧ w'.cell? ⟨w.heap.size, 2, none⟩ = some (.int .i64 r.pal.dp) ∧ w'.cell? ⟨w.heap.size, 3, none⟩ = some (.int .i64 r.pal.ht) ∧ w'.cell? ⟨w.heap.size, 4, none⟩ = some (.int .i64 r.pal.gram) ∧ w'.cell? ⟨w.heap.size, 5, none⟩ = some (.int .i64 r.classes) ∧ w'.cell? ⟨w.heap.size, 6, none⟩ = some (.slice h.ap r.pairs.length h.cp) ∧ w'.cell? ⟨w.heap.size, 7, none⟩ = some (.slice h.at' r.types.length h.ct) ∧ w'.cell? ⟨w.heap.size, 8, none⟩ = some (.int .i64 r.master) ∧ w'.cell? ⟨w.heap.size, 9, none⟩ = some (.slice h.ai r.items.length h.ci)) wq := fun wq h => by rw [hSdef] at h; exact h
    clear hSdef
    have hHeld : S wA.drew := hSmk wA.drew (unhide Kau0)
    refine wp_region_to (S := S) (T := [10]) (by kernel_rfl) hHeld (fun _ => ?_)
    generalize wA.drew = u0 at *
    refine wpTo_take (i := 0) (v := ?_) rfl (by kernel_rfl) (by kernel_rfl) (by kernel_rfl) (by kernel_rfl) (by kernel_rfl) (fun _ _ _ h => h) (Or.inl ⟨by rfl, ?_⟩) (by assumption) ?_
    rotate_left
    · intro w hSw
      have hSw := hSd _ hSw
      (try dsimp only at hSw)
      go_simp <;> with_reducible rfl
    try simp only [Act.put, getElem_toArray, getElem_cons_zero, getElem_cons_succ, setIfInBounds_toArray, set_cons_zero, set_cons_succ]
    refine wpTo_take (i := 1) (v := ?_) rfl (by kernel_rfl) (by kernel_rfl) (by kernel_rfl) (by kernel_rfl) (by kernel_rfl) (fun _ _ _ h => h) (Or.inl ⟨by rfl, ?_⟩) (by assumption) ?_
    rotate_left
    · intro w hSw
      have hSw := hSd _ hSw
      (try dsimp only at hSw)
      go_simp <;> with_reducible rfl
    try simp only [Act.put, getElem_toArray, getElem_cons_zero, getElem_cons_succ, setIfInBounds_toArray, set_cons_zero, set_cons_succ]
    refine wpTo_take (i := 3) (v := ?_) rfl (by kernel_rfl) (by kernel_rfl) (by kernel_rfl) (by kernel_rfl) (by kernel_rfl) (fun _ _ _ h => h) (Or.inl ⟨by rfl, ?_⟩) (by assumption) ?_
    rotate_left
    · intro w hSw
      have hSw := hSd _ hSw
      (try dsimp only at hSw)
      go_simp <;> with_reducible rfl
    try simp only [Act.put, getElem_toArray, getElem_cons_zero, getElem_cons_succ, setIfInBounds_toArray, set_cons_zero, set_cons_succ]
    refine wpTo_take (i := 5) (v := ?_) rfl (by kernel_rfl) (by kernel_rfl) (by kernel_rfl) (by kernel_rfl) (by kernel_rfl) (fun _ _ _ h => h) (Or.inl ⟨by rfl, ?_⟩) (by assumption) ?_
    rotate_left
    · intro w hSw
      have hSw := hSd _ hSw
      (try dsimp only at hSw)
      go_simp <;> with_reducible rfl
    try simp only [Act.put, getElem_toArray, getElem_cons_zero, getElem_cons_succ, setIfInBounds_toArray, set_cons_zero, set_cons_succ]
    refine wpTo_ready (rs := [2, 6, 9]) (by kernel_rfl) (by simp) ?_
    refine AllTo.cons (o := _) rfl (fun K hK => ?_) ?_
    ·
     (try simp only [getElem_toArray, getElem_cons_zero, getElem_cons_succ])
     have Bu1 : Hid (Below w.heap.size w (u0.alloc (.cells #[] 3))) := (unhide Bu0).alloc (unhide Bu0).size _
     have Kau1 := hide ((unhide Kau0).allocOld Zau0 (.cells #[] 3))
     have Zau1 := lt_alloc Zau0 (.cells #[] 3)
     have Nqae : w.heap.size ≠ u0.heap.size := Nat.ne_of_lt Zau0
     have Ktu1 := hide ((unhide Ktu0).allocOld Ztu0 (.cells #[] 3))
     have Ztu1 := lt_alloc Ztu0 (.cells #[] 3)
     have Nqte : (w.heap.size + 1) ≠ u0.heap.size := Nat.ne_of_lt Ztu0
     have Oeu1 : Hid ((u0.alloc (.cells #[] 3)).ownsRow w.heap.size 3 1 (.slice (some ⟨u0.heap.size, 0, none⟩) (0) 0) (0) ([])) := own_lit0 u0 (unhide Bu0).size
     go_simp
     clear hHeld
     clear Bu0 Kau0 Zau0 Ktu0 Ztu0
     generalize (u0.alloc (.cells #[] 3)) = u1 at *
     have hHeld := hSmk u1 (unhide Kau1)
     refine hK.out _ _ (fun _ => hHeld) ?_
     clear hK K
     try simp only [Act.put, getElem_toArray, getElem_cons_zero, getElem_cons_succ, setIfInBounds_toArray, set_cons_zero, set_cons_succ]
     refine wpTo_ready (rs := [4, 6, 9]) (by kernel_rfl) (by simp) ?_
     refine AllTo.cons (o := _) rfl (fun K hK => ?_) ?_
     ·
      skip
      refine step_append_some _ (by rfl) _ _ 31 (by rfl) w.heap.size 3 i0 (.int .i64 0) 1 8 Tryz.underlying31 hi hz0 hz1 hz2 rfl (by omega) (.slice (some ⟨u0.heap.size, 0, none⟩) (0) 0) (0) ([]) (by rfl) (unhide Oeu1) (by simp) ⟨b, off, none⟩ (n) (c) (us.map (Value.int .i64)) (by rfl) (unhide HU).news_len ((unhide HU).mono (unhide Bu1)).news (news_one us) (by unfold maxLen; omega) (by omega) (unhide Bu1).size ?_
      intro ga2 cap2 u2 ho hg hat hlt
      rw [Nat.zero_add] at ho ⊢
      rw [List.nil_append] at ho
      have Bu2 : Hid (Below w.heap.size w u2) := (unhide Bu1).grown hg (unhide Bu1).size (fun b hb => by have := own_base (unhide Oeu1); simp [Value.ownBlock] at hb; omega)
      have Kau2 := hide (Blk.gb (unhide Kau1) hg Zau1 Nqae)
      have Zau2 := Nat.lt_of_lt_of_le Zau1 hg.size
      have Nqaf := ne_new hat Nqae Zau1
      have Ktu2 := hide (Blk.gb (unhide Ktu1) hg Ztu1 Nqte)
      have Ztu2 := Nat.lt_of_lt_of_le Ztu1 hg.size
      have Nqtf := ne_new hat Nqte Ztu1
      have Ofu2 : Hid (u2.ownsRow w.heap.size 3 1 (.slice (some ⟨ga2, 0, none⟩) (n) cap2) (n) (us.map (Value.int .i64))) := ho
      clear ho hg hat hlt hHeld
      clear Bu1 Kau1 Zau1 Ktu1 Ztu1 Oeu1
      have hHeld := hSmk u2 (unhide Kau2)
      refine hK.out _ _ (fun _ => hHeld) ?_
      clear hK K
      try simp only [Act.put, getElem_toArray, getElem_cons_zero, getElem_cons_succ, setIfInBounds_toArray, set_cons_zero, set_cons_succ]
      refine wpTo_ready (rs := [6, 9]) (by kernel_rfl) (by simp) ?_
      refine AllTo.cons (o := _) rfl (fun K hK => ?_) ?_
      ·
       (try simp only [getElem_toArray, getElem_cons_zero, getElem_cons_succ])
       have Bu3 := hide ((unhide Bu2).alloc (unhide Bu2).size (.cells #[.int .i64 u] 3))
       have Kuu3 : Hid (Blk (u2.alloc (.cells #[.int .i64 u] 3)) u2.heap.size [.int .i64 u]) := Blk.allocAt [.int .i64 u] rfl
       have Zuu3 := lt_alloc_new u2 (.cells #[.int .i64 u] 3)
       have Gu : w.heap.size ≤ u2.heap.size := (unhide Bu2).size
       have Kau3 := hide ((unhide Kau2).allocOld Zau2 (.cells #[.int .i64 u] 3))
       have Zau3 := lt_alloc Zau2 (.cells #[.int .i64 u] 3)
       have Ktu3 := hide ((unhide Ktu2).allocOld Ztu2 (.cells #[.int .i64 u] 3))
       have Ztu3 := lt_alloc Ztu2 (.cells #[.int .i64 u] 3)
       have Ofu3 := hide ((unhide Ofu2).alloc (.cells #[.int .i64 u] 3))
       have Nquf : u2.heap.size ≠ ga2 := Nat.ne_of_gt ((unhide Ofu2).lt _ rfl).2
       go_simp
       clear hHeld
       clear Bu2 Kau2 Zau2 Ktu2 Ztu2 Ofu2
       generalize (u2.alloc (.cells #[.int .i64 u] 3)) = u3 at *
       have hHeld := hSmk u3 (unhide Kau3)
       refine hK.out _ _ (fun _ => hHeld) ?_
       clear hK K
       try simp only [Act.put, getElem_toArray, getElem_cons_zero, getElem_cons_succ, setIfInBounds_toArray, set_cons_zero, set_cons_succ]
       refine wpTo_ready (rs := [7, 9]) (by kernel_rfl) (by simp) ?_
       refine AllTo.cons (o := _) rfl (fun K hK => ?_) ?_
       ·
        skip
        refine step_append_some _ (by rfl) _ _ 31 (by rfl) w.heap.size 3 i0 (.int .i64 0) 1 8 Tryz.underlying31 hi hz0 hz1 hz2 rfl (by omega) (.slice (some ⟨ga2, 0, none⟩) (n) cap2) (n) (us.map (Value.int .i64)) (by rfl) (unhide Ofu3) (by simp) ⟨u2.heap.size, 0, none⟩ (1) (1) ([.int .i64 u]) (by rfl) rfl (unhide Kuu3).news (by simp [Value.oneCell']) (by unfold maxLen; omega) (by omega) (unhide Bu3).size ?_
        intro ga4 cap4 u4 ho hg hat hlt
        rw [show us.map (Value.int .i64) ++ [.int .i64 u] = (us ++ [u]).map (Value.int .i64) from by simp] at ho
        have Bu4 : Hid (Below w.heap.size w u4) := (unhide Bu3).grown hg (unhide Bu3).size (fun b hb => by have := own_base (unhide Ofu3); simp [Value.ownBlock] at hb; omega)
        have Kau4 := hide (Blk.gb (unhide Kau3) hg Zau3 Nqaf)
        have Zau4 := Nat.lt_of_lt_of_le Zau3 hg.size
        have Ktu4 := hide (Blk.gb (unhide Ktu3) hg Ztu3 Nqtf)
        have Ztu4 := Nat.lt_of_lt_of_le Ztu3 hg.size
        have Kuu4 := hide (Blk.gb (unhide Kuu3) hg Zuu3 Nquf)
        have Zuu4 := Nat.lt_of_lt_of_le Zuu3 hg.size
        have Oku4 : Hid (u4.ownsRow w.heap.size 3 1 (.slice (some ⟨ga4, 0, none⟩) (n + 1) cap4) (n + 1) ((us ++ [u]).map (Value.int .i64))) := ho
        clear ho hg hat hlt hHeld
        clear Bu3 Kau3 Zau3 Ktu3 Ztu3 Kuu3 Zuu3 Ofu3
        have hHeld := hSmk u4 (unhide Kau4)
        refine hK.out _ _ (fun _ => hHeld) ?_
        clear hK K
        try simp only [Act.put, getElem_toArray, getElem_cons_zero, getElem_cons_succ, setIfInBounds_toArray, set_cons_zero, set_cons_succ]
        refine wpTo_ready (rs := [8, 9]) (by kernel_rfl) (by simp) ?_
        refine AllTo.cons (o := _) rfl (fun K hK => ?_) ?_
        ·
         (try simp only [getElem_toArray, getElem_cons_zero, getElem_cons_succ])
         go_simp
         refine (l7Of_any r h aa na ca (some ⟨ga4, 0, none⟩) (n + 1) cap4 (us ++ [u]) u4 ((unhide HR).mono (unhide Bu4)) ((unhide HA).mono (unhide Bu4)) (Rd.of_owns (unhide Oku4)) (by omega)).mono ?_
         rintro e u5 ⟨rfl, hb⟩
         have Bu5 := hide ((unhide Bu4).trans (hb.mono (unhide Bu4).size))
         have Kau5 := hide (Blk.below hb Zau4 (unhide Kau4))
         have Zau5 := Nat.lt_of_lt_of_le Zau4 hb.size
         have Ktu5 := hide (Blk.below hb Ztu4 (unhide Ktu4))
         have Ztu5 := Nat.lt_of_lt_of_le Ztu4 hb.size
         have Kuu5 := hide (Blk.below hb Zuu4 (unhide Kuu4))
         have Zuu5 := Nat.lt_of_lt_of_le Zuu4 hb.size
         have Oku5 := hide (own_later (unhide Oku4) hb)
         clear hb
         clear Bu4 Kau4 Zau4 Ktu4 Ztu4 Kuu4 Zuu4 Oku4
         clear hHeld
         go_wp2_with fail
         have hHeld := hSmk u5 (unhide Kau5)
         refine hK.out _ _ (fun _ => hHeld) ?_
         clear hK K
         try simp only [Act.put, getElem_toArray, getElem_cons_zero, getElem_cons_succ, setIfInBounds_toArray, set_cons_zero, set_cons_succ]
         refine wpTo_ready (rs := [9]) (by kernel_rfl) (by simp) ?_
         refine AllTo.cons (o := _) rfl (fun K hK => ?_) ?_
         ·
          (try simp only [getElem_toArray, getElem_cons_zero, getElem_cons_succ])
          have Bu6 := hide ((unhide Bu5).alloc (unhide Bu5).size (.cells #[.int .i64 0, .int .i64 0] 85))
          have Klu6 : Hid (Blk (u5.alloc (.cells #[.int .i64 0, .int .i64 0] 85)) u5.heap.size [.int .i64 0, .int .i64 0]) := Blk.allocAt [.int .i64 0, .int .i64 0] rfl
          have Zlu6 := lt_alloc_new u5 (.cells #[.int .i64 0, .int .i64 0] 85)
          have Gl : w.heap.size ≤ u5.heap.size := (unhide Bu5).size
          have Kau6 := hide ((unhide Kau5).allocOld Zau5 (.cells #[.int .i64 0, .int .i64 0] 85))
          have Zau6 := lt_alloc Zau5 (.cells #[.int .i64 0, .int .i64 0] 85)
          have Ktu6 := hide ((unhide Ktu5).allocOld Ztu5 (.cells #[.int .i64 0, .int .i64 0] 85))
          have Ztu6 := lt_alloc Ztu5 (.cells #[.int .i64 0, .int .i64 0] 85)
          have Nqtl : (w.heap.size + 1) ≠ u5.heap.size := Nat.ne_of_lt Ztu5
          have Kuu6 := hide ((unhide Kuu5).allocOld Zuu5 (.cells #[.int .i64 0, .int .i64 0] 85))
          have Zuu6 := lt_alloc Zuu5 (.cells #[.int .i64 0, .int .i64 0] 85)
          have Nqul : u2.heap.size ≠ u5.heap.size := Nat.ne_of_lt Zuu5
          have Nqlu := Ne.symm Nqul
          have Oku6 := hide ((unhide Oku5).alloc (.cells #[.int .i64 0, .int .i64 0] 85))
          go_simp
          clear hHeld
          clear Bu5 Kau5 Zau5 Ktu5 Ztu5 Kuu5 Zuu5 Oku5
          generalize (u5.alloc (.cells #[.int .i64 0, .int .i64 0] 85)) = u6 at *
          have hHeld := hSmk u6 (unhide Kau6)
          refine hK.out _ _ (fun _ => hHeld) ?_
          clear hK K
          try simp only [Act.put, getElem_toArray, getElem_cons_zero, getElem_cons_succ, setIfInBounds_toArray, set_cons_zero, set_cons_succ]
          refine wpTo_ready (rs := [10]) (by kernel_rfl) (by simp) ?_
          refine AllTo.cons (o := _) rfl (fun K hK => ?_) ?_
          ·
           (try simp only [getElem_toArray, getElem_cons_zero, getElem_cons_succ])
           clear Kuu6 Zuu6
           clear Oku6
           clear Kau6 Zau6
           have p0 := ((unhide Klu6) 0 (by simp)).1
           have q0 := ((unhide Klu6) 0 (by simp)).2
           have p1 := ((unhide Klu6) 1 (by simp)).1
           have q1 := ((unhide Klu6) 1 (by simp)).2
           go_simp
           clear p0 q0 p1 q1
           have Bu7 : Hid (Below w.heap.size w ((u6.setCell ⟨u5.heap.size, 0, none⟩ (.int .i64 (volOf (itemsR r) (us ++ [u])))).setCell ⟨u5.heap.size, 1, none⟩ (.int .i64 (gramOf (itemsR r) (us ++ [u]))))) := (((unhide Bu6).setCell Gl _).setCell Gl _)
           have Klu7 : Hid (Blk ((u6.setCell ⟨u5.heap.size, 0, none⟩ (.int .i64 (volOf (itemsR r) (us ++ [u])))).setCell ⟨u5.heap.size, 1, none⟩ (.int .i64 (gramOf (itemsR r) (us ++ [u])))) u5.heap.size [.int .i64 (volOf (itemsR r) (us ++ [u])), .int .i64 (gramOf (itemsR r) (us ++ [u]))]) := Blk.fill2 (unhide Klu6)
           have Zlu7 : u5.heap.size < ((u6.setCell ⟨u5.heap.size, 0, none⟩ (.int .i64 (volOf (itemsR r) (us ++ [u])))).setCell ⟨u5.heap.size, 1, none⟩ (.int .i64 (gramOf (itemsR r) (us ++ [u])))).heap.size := by simpa using Zlu6
           have Ktu7 : Hid (Blk ((u6.setCell ⟨u5.heap.size, 0, none⟩ (.int .i64 (volOf (itemsR r) (us ++ [u])))).setCell ⟨u5.heap.size, 1, none⟩ (.int .i64 (gramOf (itemsR r) (us ++ [u])))) (w.heap.size + 1) [.int .i64 t.id, .int .i64 t.wd, .int .i64 t.ht, .int .i64 t.dp, .int .i64 t.tare, .int .i64 t.gram, .int .i64 t.cost]) := (((unhide Ktu6).other Nqtl).other Nqtl)
           have Ztu7 : (w.heap.size + 1) < ((u6.setCell ⟨u5.heap.size, 0, none⟩ (.int .i64 (volOf (itemsR r) (us ++ [u])))).setCell ⟨u5.heap.size, 1, none⟩ (.int .i64 (gramOf (itemsR r) (us ++ [u])))).heap.size := by simpa using Ztu6
           clear hHeld
           clear Bu6 Ktu6 Ztu6 Klu6 Zlu6
           generalize ((u6.setCell ⟨u5.heap.size, 0, none⟩ (.int .i64 (volOf (itemsR r) (us ++ [u])))).setCell ⟨u5.heap.size, 1, none⟩ (.int .i64 (gramOf (itemsR r) (us ++ [u])))) = u7 at *
           refine hK.out _ _ (fun hn => absurd (by decide) hn) ?_
           clear hK K
           try simp only [Act.put, getElem_toArray, getElem_cons_zero, getElem_cons_succ, setIfInBounds_toArray, set_cons_zero, set_cons_succ]
           refine wpTo_done (by kernel_rfl) ?_ _
           refine NoPanic.normal ?_
           go_wp2_with fail
           go_meet
           case rel => exact ⟨_, rfl, unhide Klu7, unhide Ktu7, unhide Bu7⟩
          exact AllTo.nil
         exact AllTo.nil
        refine AllTo.cons (o := _) rfl (fun K hK => ?_) ?_
        ·
         (try simp only [getElem_toArray, getElem_cons_zero, getElem_cons_succ])
         have Bu5 := hide ((unhide Bu4).alloc (unhide Bu4).size (.cells #[.int .i64 0, .int .i64 0] 85))
         have Klu5 : Hid (Blk (u4.alloc (.cells #[.int .i64 0, .int .i64 0] 85)) u4.heap.size [.int .i64 0, .int .i64 0]) := Blk.allocAt [.int .i64 0, .int .i64 0] rfl
         have Zlu5 := lt_alloc_new u4 (.cells #[.int .i64 0, .int .i64 0] 85)
         have Gl : w.heap.size ≤ u4.heap.size := (unhide Bu4).size
         have Kau5 := hide ((unhide Kau4).allocOld Zau4 (.cells #[.int .i64 0, .int .i64 0] 85))
         have Zau5 := lt_alloc Zau4 (.cells #[.int .i64 0, .int .i64 0] 85)
         have Ktu5 := hide ((unhide Ktu4).allocOld Ztu4 (.cells #[.int .i64 0, .int .i64 0] 85))
         have Ztu5 := lt_alloc Ztu4 (.cells #[.int .i64 0, .int .i64 0] 85)
         have Nqtl : (w.heap.size + 1) ≠ u4.heap.size := Nat.ne_of_lt Ztu4
         have Kuu5 := hide ((unhide Kuu4).allocOld Zuu4 (.cells #[.int .i64 0, .int .i64 0] 85))
         have Zuu5 := lt_alloc Zuu4 (.cells #[.int .i64 0, .int .i64 0] 85)
         have Nqul : u2.heap.size ≠ u4.heap.size := Nat.ne_of_lt Zuu4
         have Nqlu := Ne.symm Nqul
         have Oku5 := hide ((unhide Oku4).alloc (.cells #[.int .i64 0, .int .i64 0] 85))
         go_simp
         clear hHeld
         clear Bu4 Kau4 Zau4 Ktu4 Ztu4 Kuu4 Zuu4 Oku4
         generalize (u4.alloc (.cells #[.int .i64 0, .int .i64 0] 85)) = u5 at *
         have hHeld := hSmk u5 (unhide Kau5)
         refine hK.out _ _ (fun _ => hHeld) ?_
         clear hK K
         try simp only [Act.put, getElem_toArray, getElem_cons_zero, getElem_cons_succ, setIfInBounds_toArray, set_cons_zero, set_cons_succ]
         refine wpTo_ready (rs := [8]) (by kernel_rfl) (by simp) ?_
         refine AllTo.cons (o := _) rfl (fun K hK => ?_) ?_
         ·
          (try simp only [getElem_toArray, getElem_cons_zero, getElem_cons_succ])
          go_simp
          refine (l7Of_any r h aa na ca (some ⟨ga4, 0, none⟩) (n + 1) cap4 (us ++ [u]) u5 ((unhide HR).mono (unhide Bu5)) ((unhide HA).mono (unhide Bu5)) (Rd.of_owns (unhide Oku5)) (by omega)).mono ?_
          rintro e u6 ⟨rfl, hb⟩
          have Bu6 := hide ((unhide Bu5).trans (hb.mono (unhide Bu5).size))
          have Kau6 := hide (Blk.below hb Zau5 (unhide Kau5))
          have Zau6 := Nat.lt_of_lt_of_le Zau5 hb.size
          have Ktu6 := hide (Blk.below hb Ztu5 (unhide Ktu5))
          have Ztu6 := Nat.lt_of_lt_of_le Ztu5 hb.size
          have Kuu6 := hide (Blk.below hb Zuu5 (unhide Kuu5))
          have Zuu6 := Nat.lt_of_lt_of_le Zuu5 hb.size
          have Klu6 := hide (Blk.below hb Zlu5 (unhide Klu5))
          have Zlu6 := Nat.lt_of_lt_of_le Zlu5 hb.size
          have Oku6 := hide (own_later (unhide Oku5) hb)
          clear hb
          clear Bu5 Kau5 Zau5 Ktu5 Ztu5 Kuu5 Zuu5 Klu5 Zlu5 Oku5
          clear hHeld
          go_wp2_with fail
          have hHeld := hSmk u6 (unhide Kau6)
          refine hK.out _ _ (fun _ => hHeld) ?_
          clear hK K
          try simp only [Act.put, getElem_toArray, getElem_cons_zero, getElem_cons_succ, setIfInBounds_toArray, set_cons_zero, set_cons_succ]
          refine wpTo_ready (rs := [10]) (by kernel_rfl) (by simp) ?_
          refine AllTo.cons (o := _) rfl (fun K hK => ?_) ?_
          ·
           (try simp only [getElem_toArray, getElem_cons_zero, getElem_cons_succ])
           clear Kuu6 Zuu6
           clear Oku6
           clear Kau6 Zau6
           have p0 := ((unhide Klu6) 0 (by simp)).1
           have q0 := ((unhide Klu6) 0 (by simp)).2
           have p1 := ((unhide Klu6) 1 (by simp)).1
           have q1 := ((unhide Klu6) 1 (by simp)).2
           go_simp
           clear p0 q0 p1 q1
           have Bu7 : Hid (Below w.heap.size w ((u6.setCell ⟨u4.heap.size, 0, none⟩ (.int .i64 (volOf (itemsR r) (us ++ [u])))).setCell ⟨u4.heap.size, 1, none⟩ (.int .i64 (gramOf (itemsR r) (us ++ [u]))))) := (((unhide Bu6).setCell Gl _).setCell Gl _)
           have Klu7 : Hid (Blk ((u6.setCell ⟨u4.heap.size, 0, none⟩ (.int .i64 (volOf (itemsR r) (us ++ [u])))).setCell ⟨u4.heap.size, 1, none⟩ (.int .i64 (gramOf (itemsR r) (us ++ [u])))) u4.heap.size [.int .i64 (volOf (itemsR r) (us ++ [u])), .int .i64 (gramOf (itemsR r) (us ++ [u]))]) := Blk.fill2 (unhide Klu6)
           have Zlu7 : u4.heap.size < ((u6.setCell ⟨u4.heap.size, 0, none⟩ (.int .i64 (volOf (itemsR r) (us ++ [u])))).setCell ⟨u4.heap.size, 1, none⟩ (.int .i64 (gramOf (itemsR r) (us ++ [u])))).heap.size := by simpa using Zlu6
           have Ktu7 : Hid (Blk ((u6.setCell ⟨u4.heap.size, 0, none⟩ (.int .i64 (volOf (itemsR r) (us ++ [u])))).setCell ⟨u4.heap.size, 1, none⟩ (.int .i64 (gramOf (itemsR r) (us ++ [u])))) (w.heap.size + 1) [.int .i64 t.id, .int .i64 t.wd, .int .i64 t.ht, .int .i64 t.dp, .int .i64 t.tare, .int .i64 t.gram, .int .i64 t.cost]) := (((unhide Ktu6).other Nqtl).other Nqtl)
           have Ztu7 : (w.heap.size + 1) < ((u6.setCell ⟨u4.heap.size, 0, none⟩ (.int .i64 (volOf (itemsR r) (us ++ [u])))).setCell ⟨u4.heap.size, 1, none⟩ (.int .i64 (gramOf (itemsR r) (us ++ [u])))).heap.size := by simpa using Ztu6
           clear hHeld
           clear Bu6 Ktu6 Ztu6 Klu6 Zlu6
           generalize ((u6.setCell ⟨u4.heap.size, 0, none⟩ (.int .i64 (volOf (itemsR r) (us ++ [u])))).setCell ⟨u4.heap.size, 1, none⟩ (.int .i64 (gramOf (itemsR r) (us ++ [u])))) = u7 at *
           refine hK.out _ _ (fun hn => absurd (by decide) hn) ?_
           clear hK K
           try simp only [Act.put, getElem_toArray, getElem_cons_zero, getElem_cons_succ, setIfInBounds_toArray, set_cons_zero, set_cons_succ]
           refine wpTo_done (by kernel_rfl) ?_ _
           refine NoPanic.normal ?_
           go_wp2_with fail
           go_meet
           case rel => exact ⟨_, rfl, unhide Klu7, unhide Ktu7, unhide Bu7⟩
          exact AllTo.nil
         exact AllTo.nil
        exact AllTo.nil
       refine AllTo.cons (o := _) rfl (fun K hK => ?_) ?_
       ·
        (try simp only [getElem_toArray, getElem_cons_zero, getElem_cons_succ])
        have Bu4 := hide ((unhide Bu3).alloc (unhide Bu3).size (.cells #[.int .i64 0, .int .i64 0] 85))
        have Klu4 : Hid (Blk (u3.alloc (.cells #[.int .i64 0, .int .i64 0] 85)) u3.heap.size [.int .i64 0, .int .i64 0]) := Blk.allocAt [.int .i64 0, .int .i64 0] rfl
        have Zlu4 := lt_alloc_new u3 (.cells #[.int .i64 0, .int .i64 0] 85)
        have Gl : w.heap.size ≤ u3.heap.size := (unhide Bu3).size
        have Kau4 := hide ((unhide Kau3).allocOld Zau3 (.cells #[.int .i64 0, .int .i64 0] 85))
        have Zau4 := lt_alloc Zau3 (.cells #[.int .i64 0, .int .i64 0] 85)
        have Ktu4 := hide ((unhide Ktu3).allocOld Ztu3 (.cells #[.int .i64 0, .int .i64 0] 85))
        have Ztu4 := lt_alloc Ztu3 (.cells #[.int .i64 0, .int .i64 0] 85)
        have Nqtl : (w.heap.size + 1) ≠ u3.heap.size := Nat.ne_of_lt Ztu3
        have Kuu4 := hide ((unhide Kuu3).allocOld Zuu3 (.cells #[.int .i64 0, .int .i64 0] 85))
        have Zuu4 := lt_alloc Zuu3 (.cells #[.int .i64 0, .int .i64 0] 85)
        have Nqul : u2.heap.size ≠ u3.heap.size := Nat.ne_of_lt Zuu3
        have Nqlu := Ne.symm Nqul
        have Ofu4 := hide ((unhide Ofu3).alloc (.cells #[.int .i64 0, .int .i64 0] 85))
        have Nqlf : u3.heap.size ≠ ga2 := Nat.ne_of_gt ((unhide Ofu3).lt _ rfl).2
        go_simp
        clear hHeld
        clear Bu3 Kau3 Zau3 Ktu3 Ztu3 Kuu3 Zuu3 Ofu3
        generalize (u3.alloc (.cells #[.int .i64 0, .int .i64 0] 85)) = u4 at *
        have hHeld := hSmk u4 (unhide Kau4)
        refine hK.out _ _ (fun _ => hHeld) ?_
        clear hK K
        try simp only [Act.put, getElem_toArray, getElem_cons_zero, getElem_cons_succ, setIfInBounds_toArray, set_cons_zero, set_cons_succ]
        refine wpTo_ready (rs := [7]) (by kernel_rfl) (by simp) ?_
        refine AllTo.cons (o := _) rfl (fun K hK => ?_) ?_
        ·
         skip
         refine step_append_some _ (by rfl) _ _ 31 (by rfl) w.heap.size 3 i0 (.int .i64 0) 1 8 Tryz.underlying31 hi hz0 hz1 hz2 rfl (by omega) (.slice (some ⟨ga2, 0, none⟩) (n) cap2) (n) (us.map (Value.int .i64)) (by rfl) (unhide Ofu4) (by simp) ⟨u2.heap.size, 0, none⟩ (1) (1) ([.int .i64 u]) (by rfl) rfl (unhide Kuu4).news (by simp [Value.oneCell']) (by unfold maxLen; omega) (by omega) (unhide Bu4).size ?_
         intro ga5 cap5 u5 ho hg hat hlt
         rw [show us.map (Value.int .i64) ++ [.int .i64 u] = (us ++ [u]).map (Value.int .i64) from by simp] at ho
         have Bu5 : Hid (Below w.heap.size w u5) := (unhide Bu4).grown hg (unhide Bu4).size (fun b hb => by have := own_base (unhide Ofu4); simp [Value.ownBlock] at hb; omega)
         have Kau5 := hide (Blk.gb (unhide Kau4) hg Zau4 Nqaf)
         have Zau5 := Nat.lt_of_lt_of_le Zau4 hg.size
         have Ktu5 := hide (Blk.gb (unhide Ktu4) hg Ztu4 Nqtf)
         have Ztu5 := Nat.lt_of_lt_of_le Ztu4 hg.size
         have Kuu5 := hide (Blk.gb (unhide Kuu4) hg Zuu4 Nquf)
         have Zuu5 := Nat.lt_of_lt_of_le Zuu4 hg.size
         have Klu5 := hide (Blk.gb (unhide Klu4) hg Zlu4 Nqlf)
         have Zlu5 := Nat.lt_of_lt_of_le Zlu4 hg.size
         have Oku5 : Hid (u5.ownsRow w.heap.size 3 1 (.slice (some ⟨ga5, 0, none⟩) (n + 1) cap5) (n + 1) ((us ++ [u]).map (Value.int .i64))) := ho
         clear ho hg hat hlt hHeld
         clear Bu4 Kau4 Zau4 Ktu4 Ztu4 Kuu4 Zuu4 Klu4 Zlu4 Ofu4
         have hHeld := hSmk u5 (unhide Kau5)
         refine hK.out _ _ (fun _ => hHeld) ?_
         clear hK K
         try simp only [Act.put, getElem_toArray, getElem_cons_zero, getElem_cons_succ, setIfInBounds_toArray, set_cons_zero, set_cons_succ]
         refine wpTo_ready (rs := [8]) (by kernel_rfl) (by simp) ?_
         refine AllTo.cons (o := _) rfl (fun K hK => ?_) ?_
         ·
          (try simp only [getElem_toArray, getElem_cons_zero, getElem_cons_succ])
          go_simp
          refine (l7Of_any r h aa na ca (some ⟨ga5, 0, none⟩) (n + 1) cap5 (us ++ [u]) u5 ((unhide HR).mono (unhide Bu5)) ((unhide HA).mono (unhide Bu5)) (Rd.of_owns (unhide Oku5)) (by omega)).mono ?_
          rintro e u6 ⟨rfl, hb⟩
          have Bu6 := hide ((unhide Bu5).trans (hb.mono (unhide Bu5).size))
          have Kau6 := hide (Blk.below hb Zau5 (unhide Kau5))
          have Zau6 := Nat.lt_of_lt_of_le Zau5 hb.size
          have Ktu6 := hide (Blk.below hb Ztu5 (unhide Ktu5))
          have Ztu6 := Nat.lt_of_lt_of_le Ztu5 hb.size
          have Kuu6 := hide (Blk.below hb Zuu5 (unhide Kuu5))
          have Zuu6 := Nat.lt_of_lt_of_le Zuu5 hb.size
          have Klu6 := hide (Blk.below hb Zlu5 (unhide Klu5))
          have Zlu6 := Nat.lt_of_lt_of_le Zlu5 hb.size
          have Oku6 := hide (own_later (unhide Oku5) hb)
          clear hb
          clear Bu5 Kau5 Zau5 Ktu5 Ztu5 Kuu5 Zuu5 Klu5 Zlu5 Oku5
          clear hHeld
          go_wp2_with fail
          have hHeld := hSmk u6 (unhide Kau6)
          refine hK.out _ _ (fun _ => hHeld) ?_
          clear hK K
          try simp only [Act.put, getElem_toArray, getElem_cons_zero, getElem_cons_succ, setIfInBounds_toArray, set_cons_zero, set_cons_succ]
          refine wpTo_ready (rs := [10]) (by kernel_rfl) (by simp) ?_
          refine AllTo.cons (o := _) rfl (fun K hK => ?_) ?_
          ·
           (try simp only [getElem_toArray, getElem_cons_zero, getElem_cons_succ])
           clear Kuu6 Zuu6
           clear Oku6
           clear Kau6 Zau6
           have p0 := ((unhide Klu6) 0 (by simp)).1
           have q0 := ((unhide Klu6) 0 (by simp)).2
           have p1 := ((unhide Klu6) 1 (by simp)).1
           have q1 := ((unhide Klu6) 1 (by simp)).2
           go_simp
           clear p0 q0 p1 q1
           have Bu7 : Hid (Below w.heap.size w ((u6.setCell ⟨u3.heap.size, 0, none⟩ (.int .i64 (volOf (itemsR r) (us ++ [u])))).setCell ⟨u3.heap.size, 1, none⟩ (.int .i64 (gramOf (itemsR r) (us ++ [u]))))) := (((unhide Bu6).setCell Gl _).setCell Gl _)
           have Klu7 : Hid (Blk ((u6.setCell ⟨u3.heap.size, 0, none⟩ (.int .i64 (volOf (itemsR r) (us ++ [u])))).setCell ⟨u3.heap.size, 1, none⟩ (.int .i64 (gramOf (itemsR r) (us ++ [u])))) u3.heap.size [.int .i64 (volOf (itemsR r) (us ++ [u])), .int .i64 (gramOf (itemsR r) (us ++ [u]))]) := Blk.fill2 (unhide Klu6)
           have Zlu7 : u3.heap.size < ((u6.setCell ⟨u3.heap.size, 0, none⟩ (.int .i64 (volOf (itemsR r) (us ++ [u])))).setCell ⟨u3.heap.size, 1, none⟩ (.int .i64 (gramOf (itemsR r) (us ++ [u])))).heap.size := by simpa using Zlu6
           have Ktu7 : Hid (Blk ((u6.setCell ⟨u3.heap.size, 0, none⟩ (.int .i64 (volOf (itemsR r) (us ++ [u])))).setCell ⟨u3.heap.size, 1, none⟩ (.int .i64 (gramOf (itemsR r) (us ++ [u])))) (w.heap.size + 1) [.int .i64 t.id, .int .i64 t.wd, .int .i64 t.ht, .int .i64 t.dp, .int .i64 t.tare, .int .i64 t.gram, .int .i64 t.cost]) := (((unhide Ktu6).other Nqtl).other Nqtl)
           have Ztu7 : (w.heap.size + 1) < ((u6.setCell ⟨u3.heap.size, 0, none⟩ (.int .i64 (volOf (itemsR r) (us ++ [u])))).setCell ⟨u3.heap.size, 1, none⟩ (.int .i64 (gramOf (itemsR r) (us ++ [u])))).heap.size := by simpa using Ztu6
           clear hHeld
           clear Bu6 Ktu6 Ztu6 Klu6 Zlu6
           generalize ((u6.setCell ⟨u3.heap.size, 0, none⟩ (.int .i64 (volOf (itemsR r) (us ++ [u])))).setCell ⟨u3.heap.size, 1, none⟩ (.int .i64 (gramOf (itemsR r) (us ++ [u])))) = u7 at *
           refine hK.out _ _ (fun hn => absurd (by decide) hn) ?_
           clear hK K
           try simp only [Act.put, getElem_toArray, getElem_cons_zero, getElem_cons_succ, setIfInBounds_toArray, set_cons_zero, set_cons_succ]
           refine wpTo_done (by kernel_rfl) ?_ _
           refine NoPanic.normal ?_
           go_wp2_with fail
           go_meet
           case rel => exact ⟨_, rfl, unhide Klu7, unhide Ktu7, unhide Bu7⟩
          exact AllTo.nil
         exact AllTo.nil
        exact AllTo.nil
       exact AllTo.nil
      refine AllTo.cons (o := _) rfl (fun K hK => ?_) ?_
      ·
       (try simp only [getElem_toArray, getElem_cons_zero, getElem_cons_succ])
       have Bu3 := hide ((unhide Bu2).alloc (unhide Bu2).size (.cells #[.int .i64 0, .int .i64 0] 85))
       have Klu3 : Hid (Blk (u2.alloc (.cells #[.int .i64 0, .int .i64 0] 85)) u2.heap.size [.int .i64 0, .int .i64 0]) := Blk.allocAt [.int .i64 0, .int .i64 0] rfl
       have Zlu3 := lt_alloc_new u2 (.cells #[.int .i64 0, .int .i64 0] 85)
       have Gl : w.heap.size ≤ u2.heap.size := (unhide Bu2).size
       have Kau3 := hide ((unhide Kau2).allocOld Zau2 (.cells #[.int .i64 0, .int .i64 0] 85))
       have Zau3 := lt_alloc Zau2 (.cells #[.int .i64 0, .int .i64 0] 85)
       have Ktu3 := hide ((unhide Ktu2).allocOld Ztu2 (.cells #[.int .i64 0, .int .i64 0] 85))
       have Ztu3 := lt_alloc Ztu2 (.cells #[.int .i64 0, .int .i64 0] 85)
       have Nqtl : (w.heap.size + 1) ≠ u2.heap.size := Nat.ne_of_lt Ztu2
       have Ofu3 := hide ((unhide Ofu2).alloc (.cells #[.int .i64 0, .int .i64 0] 85))
       have Nqlf : u2.heap.size ≠ ga2 := Nat.ne_of_gt ((unhide Ofu2).lt _ rfl).2
       go_simp
       clear hHeld
       clear Bu2 Kau2 Zau2 Ktu2 Ztu2 Ofu2
       generalize (u2.alloc (.cells #[.int .i64 0, .int .i64 0] 85)) = u3 at *
       have hHeld := hSmk u3 (unhide Kau3)
       refine hK.out _ _ (fun _ => hHeld) ?_
       clear hK K
       try simp only [Act.put, getElem_toArray, getElem_cons_zero, getElem_cons_succ, setIfInBounds_toArray, set_cons_zero, set_cons_succ]
       refine wpTo_ready (rs := [6]) (by kernel_rfl) (by simp) ?_
       refine AllTo.cons (o := _) rfl (fun K hK => ?_) ?_
       ·
        (try simp only [getElem_toArray, getElem_cons_zero, getElem_cons_succ])
        have Bu4 := hide ((unhide Bu3).alloc (unhide Bu3).size (.cells #[.int .i64 u] 3))
        have Kuu4 : Hid (Blk (u3.alloc (.cells #[.int .i64 u] 3)) u3.heap.size [.int .i64 u]) := Blk.allocAt [.int .i64 u] rfl
        have Zuu4 := lt_alloc_new u3 (.cells #[.int .i64 u] 3)
        have Gu : w.heap.size ≤ u3.heap.size := (unhide Bu3).size
        have Kau4 := hide ((unhide Kau3).allocOld Zau3 (.cells #[.int .i64 u] 3))
        have Zau4 := lt_alloc Zau3 (.cells #[.int .i64 u] 3)
        have Ktu4 := hide ((unhide Ktu3).allocOld Ztu3 (.cells #[.int .i64 u] 3))
        have Ztu4 := lt_alloc Ztu3 (.cells #[.int .i64 u] 3)
        have Klu4 := hide ((unhide Klu3).allocOld Zlu3 (.cells #[.int .i64 u] 3))
        have Zlu4 := lt_alloc Zlu3 (.cells #[.int .i64 u] 3)
        have Nqlu : u2.heap.size ≠ u3.heap.size := Nat.ne_of_lt Zlu3
        have Nqul := Ne.symm Nqlu
        have Ofu4 := hide ((unhide Ofu3).alloc (.cells #[.int .i64 u] 3))
        have Nquf : u3.heap.size ≠ ga2 := Nat.ne_of_gt ((unhide Ofu3).lt _ rfl).2
        go_simp
        clear hHeld
        clear Bu3 Kau3 Zau3 Ktu3 Ztu3 Klu3 Zlu3 Ofu3
        generalize (u3.alloc (.cells #[.int .i64 u] 3)) = u4 at *
        have hHeld := hSmk u4 (unhide Kau4)
        refine hK.out _ _ (fun _ => hHeld) ?_
        clear hK K
        try simp only [Act.put, getElem_toArray, getElem_cons_zero, getElem_cons_succ, setIfInBounds_toArray, set_cons_zero, set_cons_succ]
        refine wpTo_ready (rs := [7]) (by kernel_rfl) (by simp) ?_
        refine AllTo.cons (o := _) rfl (fun K hK => ?_) ?_
        ·
         skip
         refine step_append_some _ (by rfl) _ _ 31 (by rfl) w.heap.size 3 i0 (.int .i64 0) 1 8 Tryz.underlying31 hi hz0 hz1 hz2 rfl (by omega) (.slice (some ⟨ga2, 0, none⟩) (n) cap2) (n) (us.map (Value.int .i64)) (by rfl) (unhide Ofu4) (by simp) ⟨u3.heap.size, 0, none⟩ (1) (1) ([.int .i64 u]) (by rfl) rfl (unhide Kuu4).news (by simp [Value.oneCell']) (by unfold maxLen; omega) (by omega) (unhide Bu4).size ?_
         intro ga5 cap5 u5 ho hg hat hlt
         rw [show us.map (Value.int .i64) ++ [.int .i64 u] = (us ++ [u]).map (Value.int .i64) from by simp] at ho
         have Bu5 : Hid (Below w.heap.size w u5) := (unhide Bu4).grown hg (unhide Bu4).size (fun b hb => by have := own_base (unhide Ofu4); simp [Value.ownBlock] at hb; omega)
         have Kau5 := hide (Blk.gb (unhide Kau4) hg Zau4 Nqaf)
         have Zau5 := Nat.lt_of_lt_of_le Zau4 hg.size
         have Ktu5 := hide (Blk.gb (unhide Ktu4) hg Ztu4 Nqtf)
         have Ztu5 := Nat.lt_of_lt_of_le Ztu4 hg.size
         have Klu5 := hide (Blk.gb (unhide Klu4) hg Zlu4 Nqlf)
         have Zlu5 := Nat.lt_of_lt_of_le Zlu4 hg.size
         have Kuu5 := hide (Blk.gb (unhide Kuu4) hg Zuu4 Nquf)
         have Zuu5 := Nat.lt_of_lt_of_le Zuu4 hg.size
         have Oku5 : Hid (u5.ownsRow w.heap.size 3 1 (.slice (some ⟨ga5, 0, none⟩) (n + 1) cap5) (n + 1) ((us ++ [u]).map (Value.int .i64))) := ho
         clear ho hg hat hlt hHeld
         clear Bu4 Kau4 Zau4 Ktu4 Ztu4 Klu4 Zlu4 Kuu4 Zuu4 Ofu4
         have hHeld := hSmk u5 (unhide Kau5)
         refine hK.out _ _ (fun _ => hHeld) ?_
         clear hK K
         try simp only [Act.put, getElem_toArray, getElem_cons_zero, getElem_cons_succ, setIfInBounds_toArray, set_cons_zero, set_cons_succ]
         refine wpTo_ready (rs := [8]) (by kernel_rfl) (by simp) ?_
         refine AllTo.cons (o := _) rfl (fun K hK => ?_) ?_
         ·
          (try simp only [getElem_toArray, getElem_cons_zero, getElem_cons_succ])
          go_simp
          refine (l7Of_any r h aa na ca (some ⟨ga5, 0, none⟩) (n + 1) cap5 (us ++ [u]) u5 ((unhide HR).mono (unhide Bu5)) ((unhide HA).mono (unhide Bu5)) (Rd.of_owns (unhide Oku5)) (by omega)).mono ?_
          rintro e u6 ⟨rfl, hb⟩
          have Bu6 := hide ((unhide Bu5).trans (hb.mono (unhide Bu5).size))
          have Kau6 := hide (Blk.below hb Zau5 (unhide Kau5))
          have Zau6 := Nat.lt_of_lt_of_le Zau5 hb.size
          have Ktu6 := hide (Blk.below hb Ztu5 (unhide Ktu5))
          have Ztu6 := Nat.lt_of_lt_of_le Ztu5 hb.size
          have Klu6 := hide (Blk.below hb Zlu5 (unhide Klu5))
          have Zlu6 := Nat.lt_of_lt_of_le Zlu5 hb.size
          have Kuu6 := hide (Blk.below hb Zuu5 (unhide Kuu5))
          have Zuu6 := Nat.lt_of_lt_of_le Zuu5 hb.size
          have Oku6 := hide (own_later (unhide Oku5) hb)
          clear hb
          clear Bu5 Kau5 Zau5 Ktu5 Ztu5 Klu5 Zlu5 Kuu5 Zuu5 Oku5
          clear hHeld
          go_wp2_with fail
          have hHeld := hSmk u6 (unhide Kau6)
          refine hK.out _ _ (fun _ => hHeld) ?_
          clear hK K
          try simp only [Act.put, getElem_toArray, getElem_cons_zero, getElem_cons_succ, setIfInBounds_toArray, set_cons_zero, set_cons_succ]
          refine wpTo_ready (rs := [10]) (by kernel_rfl) (by simp) ?_
          refine AllTo.cons (o := _) rfl (fun K hK => ?_) ?_
          ·
           (try simp only [getElem_toArray, getElem_cons_zero, getElem_cons_succ])
           clear Kuu6 Zuu6
           clear Oku6
           clear Kau6 Zau6
           have p0 := ((unhide Klu6) 0 (by simp)).1
           have q0 := ((unhide Klu6) 0 (by simp)).2
           have p1 := ((unhide Klu6) 1 (by simp)).1
           have q1 := ((unhide Klu6) 1 (by simp)).2
           go_simp
           clear p0 q0 p1 q1
           have Bu7 : Hid (Below w.heap.size w ((u6.setCell ⟨u2.heap.size, 0, none⟩ (.int .i64 (volOf (itemsR r) (us ++ [u])))).setCell ⟨u2.heap.size, 1, none⟩ (.int .i64 (gramOf (itemsR r) (us ++ [u]))))) := (((unhide Bu6).setCell Gl _).setCell Gl _)
           have Klu7 : Hid (Blk ((u6.setCell ⟨u2.heap.size, 0, none⟩ (.int .i64 (volOf (itemsR r) (us ++ [u])))).setCell ⟨u2.heap.size, 1, none⟩ (.int .i64 (gramOf (itemsR r) (us ++ [u])))) u2.heap.size [.int .i64 (volOf (itemsR r) (us ++ [u])), .int .i64 (gramOf (itemsR r) (us ++ [u]))]) := Blk.fill2 (unhide Klu6)
           have Zlu7 : u2.heap.size < ((u6.setCell ⟨u2.heap.size, 0, none⟩ (.int .i64 (volOf (itemsR r) (us ++ [u])))).setCell ⟨u2.heap.size, 1, none⟩ (.int .i64 (gramOf (itemsR r) (us ++ [u])))).heap.size := by simpa using Zlu6
           have Ktu7 : Hid (Blk ((u6.setCell ⟨u2.heap.size, 0, none⟩ (.int .i64 (volOf (itemsR r) (us ++ [u])))).setCell ⟨u2.heap.size, 1, none⟩ (.int .i64 (gramOf (itemsR r) (us ++ [u])))) (w.heap.size + 1) [.int .i64 t.id, .int .i64 t.wd, .int .i64 t.ht, .int .i64 t.dp, .int .i64 t.tare, .int .i64 t.gram, .int .i64 t.cost]) := (((unhide Ktu6).other Nqtl).other Nqtl)
           have Ztu7 : (w.heap.size + 1) < ((u6.setCell ⟨u2.heap.size, 0, none⟩ (.int .i64 (volOf (itemsR r) (us ++ [u])))).setCell ⟨u2.heap.size, 1, none⟩ (.int .i64 (gramOf (itemsR r) (us ++ [u])))).heap.size := by simpa using Ztu6
           clear hHeld
           clear Bu6 Ktu6 Ztu6 Klu6 Zlu6
           generalize ((u6.setCell ⟨u2.heap.size, 0, none⟩ (.int .i64 (volOf (itemsR r) (us ++ [u])))).setCell ⟨u2.heap.size, 1, none⟩ (.int .i64 (gramOf (itemsR r) (us ++ [u])))) = u7 at *
           refine hK.out _ _ (fun hn => absurd (by decide) hn) ?_
           clear hK K
           try simp only [Act.put, getElem_toArray, getElem_cons_zero, getElem_cons_succ, setIfInBounds_toArray, set_cons_zero, set_cons_succ]
           refine wpTo_done (by kernel_rfl) ?_ _
           refine NoPanic.normal ?_
           go_wp2_with fail
           go_meet
           case rel => exact ⟨_, rfl, unhide Klu7, unhide Ktu7, unhide Bu7⟩
          exact AllTo.nil
         exact AllTo.nil
        exact AllTo.nil
       exact AllTo.nil
      exact AllTo.nil
     refine AllTo.cons (o := _) rfl (fun K hK => ?_) ?_
     ·
      (try simp only [getElem_toArray, getElem_cons_zero, getElem_cons_succ])
      have Bu2 := hide ((unhide Bu1).alloc (unhide Bu1).size (.cells #[.int .i64 u] 3))
      have Kuu2 : Hid (Blk (u1.alloc (.cells #[.int .i64 u] 3)) u1.heap.size [.int .i64 u]) := Blk.allocAt [.int .i64 u] rfl
      have Zuu2 := lt_alloc_new u1 (.cells #[.int .i64 u] 3)
      have Gu : w.heap.size ≤ u1.heap.size := (unhide Bu1).size
      have Kau2 := hide ((unhide Kau1).allocOld Zau1 (.cells #[.int .i64 u] 3))
      have Zau2 := lt_alloc Zau1 (.cells #[.int .i64 u] 3)
      have Ktu2 := hide ((unhide Ktu1).allocOld Ztu1 (.cells #[.int .i64 u] 3))
      have Ztu2 := lt_alloc Ztu1 (.cells #[.int .i64 u] 3)
      have Oeu2 := hide ((unhide Oeu1).alloc (.cells #[.int .i64 u] 3))
      have Nque : u1.heap.size ≠ u0.heap.size := Nat.ne_of_gt ((unhide Oeu1).lt _ rfl).2
      go_simp
      clear hHeld
      clear Bu1 Kau1 Zau1 Ktu1 Ztu1 Oeu1
      generalize (u1.alloc (.cells #[.int .i64 u] 3)) = u2 at *
      have hHeld := hSmk u2 (unhide Kau2)
      refine hK.out _ _ (fun _ => hHeld) ?_
      clear hK K
      try simp only [Act.put, getElem_toArray, getElem_cons_zero, getElem_cons_succ, setIfInBounds_toArray, set_cons_zero, set_cons_succ]
      refine wpTo_ready (rs := [4, 9]) (by kernel_rfl) (by simp) ?_
      refine AllTo.cons (o := _) rfl (fun K hK => ?_) ?_
      ·
       skip
       refine step_append_some _ (by rfl) _ _ 31 (by rfl) w.heap.size 3 i0 (.int .i64 0) 1 8 Tryz.underlying31 hi hz0 hz1 hz2 rfl (by omega) (.slice (some ⟨u0.heap.size, 0, none⟩) (0) 0) (0) ([]) (by rfl) (unhide Oeu2) (by simp) ⟨b, off, none⟩ (n) (c) (us.map (Value.int .i64)) (by rfl) (unhide HU).news_len ((unhide HU).mono (unhide Bu2)).news (news_one us) (by unfold maxLen; omega) (by omega) (unhide Bu2).size ?_
       intro ga3 cap3 u3 ho hg hat hlt
       rw [Nat.zero_add] at ho ⊢
       rw [List.nil_append] at ho
       have Bu3 : Hid (Below w.heap.size w u3) := (unhide Bu2).grown hg (unhide Bu2).size (fun b hb => by have := own_base (unhide Oeu2); simp [Value.ownBlock] at hb; omega)
       have Kau3 := hide (Blk.gb (unhide Kau2) hg Zau2 Nqae)
       have Zau3 := Nat.lt_of_lt_of_le Zau2 hg.size
       have Nqaf := ne_new hat Nqae Zau2
       have Ktu3 := hide (Blk.gb (unhide Ktu2) hg Ztu2 Nqte)
       have Ztu3 := Nat.lt_of_lt_of_le Ztu2 hg.size
       have Nqtf := ne_new hat Nqte Ztu2
       have Kuu3 := hide (Blk.gb (unhide Kuu2) hg Zuu2 Nque)
       have Zuu3 := Nat.lt_of_lt_of_le Zuu2 hg.size
       have Nquf := ne_new hat Nque Zuu2
       have Ofu3 : Hid (u3.ownsRow w.heap.size 3 1 (.slice (some ⟨ga3, 0, none⟩) (n) cap3) (n) (us.map (Value.int .i64))) := ho
       clear ho hg hat hlt hHeld
       clear Bu2 Kau2 Zau2 Ktu2 Ztu2 Kuu2 Zuu2 Oeu2
       have hHeld := hSmk u3 (unhide Kau3)
       refine hK.out _ _ (fun _ => hHeld) ?_
       clear hK K
       try simp only [Act.put, getElem_toArray, getElem_cons_zero, getElem_cons_succ, setIfInBounds_toArray, set_cons_zero, set_cons_succ]
       refine wpTo_ready (rs := [7, 9]) (by kernel_rfl) (by simp) ?_
       refine AllTo.cons (o := _) rfl (fun K hK => ?_) ?_
       ·
        skip
        refine step_append_some _ (by rfl) _ _ 31 (by rfl) w.heap.size 3 i0 (.int .i64 0) 1 8 Tryz.underlying31 hi hz0 hz1 hz2 rfl (by omega) (.slice (some ⟨ga3, 0, none⟩) (n) cap3) (n) (us.map (Value.int .i64)) (by rfl) (unhide Ofu3) (by simp) ⟨u1.heap.size, 0, none⟩ (1) (1) ([.int .i64 u]) (by rfl) rfl (unhide Kuu3).news (by simp [Value.oneCell']) (by unfold maxLen; omega) (by omega) (unhide Bu3).size ?_
        intro ga4 cap4 u4 ho hg hat hlt
        rw [show us.map (Value.int .i64) ++ [.int .i64 u] = (us ++ [u]).map (Value.int .i64) from by simp] at ho
        have Bu4 : Hid (Below w.heap.size w u4) := (unhide Bu3).grown hg (unhide Bu3).size (fun b hb => by have := own_base (unhide Ofu3); simp [Value.ownBlock] at hb; omega)
        have Kau4 := hide (Blk.gb (unhide Kau3) hg Zau3 Nqaf)
        have Zau4 := Nat.lt_of_lt_of_le Zau3 hg.size
        have Ktu4 := hide (Blk.gb (unhide Ktu3) hg Ztu3 Nqtf)
        have Ztu4 := Nat.lt_of_lt_of_le Ztu3 hg.size
        have Kuu4 := hide (Blk.gb (unhide Kuu3) hg Zuu3 Nquf)
        have Zuu4 := Nat.lt_of_lt_of_le Zuu3 hg.size
        have Oku4 : Hid (u4.ownsRow w.heap.size 3 1 (.slice (some ⟨ga4, 0, none⟩) (n + 1) cap4) (n + 1) ((us ++ [u]).map (Value.int .i64))) := ho
        clear ho hg hat hlt hHeld
        clear Bu3 Kau3 Zau3 Ktu3 Ztu3 Kuu3 Zuu3 Ofu3
        have hHeld := hSmk u4 (unhide Kau4)
        refine hK.out _ _ (fun _ => hHeld) ?_
        clear hK K
        try simp only [Act.put, getElem_toArray, getElem_cons_zero, getElem_cons_succ, setIfInBounds_toArray, set_cons_zero, set_cons_succ]
        refine wpTo_ready (rs := [8, 9]) (by kernel_rfl) (by simp) ?_
        refine AllTo.cons (o := _) rfl (fun K hK => ?_) ?_
        ·
         (try simp only [getElem_toArray, getElem_cons_zero, getElem_cons_succ])
         go_simp
         refine (l7Of_any r h aa na ca (some ⟨ga4, 0, none⟩) (n + 1) cap4 (us ++ [u]) u4 ((unhide HR).mono (unhide Bu4)) ((unhide HA).mono (unhide Bu4)) (Rd.of_owns (unhide Oku4)) (by omega)).mono ?_
         rintro e u5 ⟨rfl, hb⟩
         have Bu5 := hide ((unhide Bu4).trans (hb.mono (unhide Bu4).size))
         have Kau5 := hide (Blk.below hb Zau4 (unhide Kau4))
         have Zau5 := Nat.lt_of_lt_of_le Zau4 hb.size
         have Ktu5 := hide (Blk.below hb Ztu4 (unhide Ktu4))
         have Ztu5 := Nat.lt_of_lt_of_le Ztu4 hb.size
         have Kuu5 := hide (Blk.below hb Zuu4 (unhide Kuu4))
         have Zuu5 := Nat.lt_of_lt_of_le Zuu4 hb.size
         have Oku5 := hide (own_later (unhide Oku4) hb)
         clear hb
         clear Bu4 Kau4 Zau4 Ktu4 Ztu4 Kuu4 Zuu4 Oku4
         clear hHeld
         go_wp2_with fail
         have hHeld := hSmk u5 (unhide Kau5)
         refine hK.out _ _ (fun _ => hHeld) ?_
         clear hK K
         try simp only [Act.put, getElem_toArray, getElem_cons_zero, getElem_cons_succ, setIfInBounds_toArray, set_cons_zero, set_cons_succ]
         refine wpTo_ready (rs := [9]) (by kernel_rfl) (by simp) ?_
         refine AllTo.cons (o := _) rfl (fun K hK => ?_) ?_
         ·
          (try simp only [getElem_toArray, getElem_cons_zero, getElem_cons_succ])
          have Bu6 := hide ((unhide Bu5).alloc (unhide Bu5).size (.cells #[.int .i64 0, .int .i64 0] 85))
          have Klu6 : Hid (Blk (u5.alloc (.cells #[.int .i64 0, .int .i64 0] 85)) u5.heap.size [.int .i64 0, .int .i64 0]) := Blk.allocAt [.int .i64 0, .int .i64 0] rfl
          have Zlu6 := lt_alloc_new u5 (.cells #[.int .i64 0, .int .i64 0] 85)
          have Gl : w.heap.size ≤ u5.heap.size := (unhide Bu5).size
          have Kau6 := hide ((unhide Kau5).allocOld Zau5 (.cells #[.int .i64 0, .int .i64 0] 85))
          have Zau6 := lt_alloc Zau5 (.cells #[.int .i64 0, .int .i64 0] 85)
          have Ktu6 := hide ((unhide Ktu5).allocOld Ztu5 (.cells #[.int .i64 0, .int .i64 0] 85))
          have Ztu6 := lt_alloc Ztu5 (.cells #[.int .i64 0, .int .i64 0] 85)
          have Nqtl : (w.heap.size + 1) ≠ u5.heap.size := Nat.ne_of_lt Ztu5
          have Kuu6 := hide ((unhide Kuu5).allocOld Zuu5 (.cells #[.int .i64 0, .int .i64 0] 85))
          have Zuu6 := lt_alloc Zuu5 (.cells #[.int .i64 0, .int .i64 0] 85)
          have Nqul : u1.heap.size ≠ u5.heap.size := Nat.ne_of_lt Zuu5
          have Nqlu := Ne.symm Nqul
          have Oku6 := hide ((unhide Oku5).alloc (.cells #[.int .i64 0, .int .i64 0] 85))
          go_simp
          clear hHeld
          clear Bu5 Kau5 Zau5 Ktu5 Ztu5 Kuu5 Zuu5 Oku5
          generalize (u5.alloc (.cells #[.int .i64 0, .int .i64 0] 85)) = u6 at *
          have hHeld := hSmk u6 (unhide Kau6)
          refine hK.out _ _ (fun _ => hHeld) ?_
          clear hK K
          try simp only [Act.put, getElem_toArray, getElem_cons_zero, getElem_cons_succ, setIfInBounds_toArray, set_cons_zero, set_cons_succ]
          refine wpTo_ready (rs := [10]) (by kernel_rfl) (by simp) ?_
          refine AllTo.cons (o := _) rfl (fun K hK => ?_) ?_
          ·
           (try simp only [getElem_toArray, getElem_cons_zero, getElem_cons_succ])
           clear Kuu6 Zuu6
           clear Oku6
           clear Kau6 Zau6
           have p0 := ((unhide Klu6) 0 (by simp)).1
           have q0 := ((unhide Klu6) 0 (by simp)).2
           have p1 := ((unhide Klu6) 1 (by simp)).1
           have q1 := ((unhide Klu6) 1 (by simp)).2
           go_simp
           clear p0 q0 p1 q1
           have Bu7 : Hid (Below w.heap.size w ((u6.setCell ⟨u5.heap.size, 0, none⟩ (.int .i64 (volOf (itemsR r) (us ++ [u])))).setCell ⟨u5.heap.size, 1, none⟩ (.int .i64 (gramOf (itemsR r) (us ++ [u]))))) := (((unhide Bu6).setCell Gl _).setCell Gl _)
           have Klu7 : Hid (Blk ((u6.setCell ⟨u5.heap.size, 0, none⟩ (.int .i64 (volOf (itemsR r) (us ++ [u])))).setCell ⟨u5.heap.size, 1, none⟩ (.int .i64 (gramOf (itemsR r) (us ++ [u])))) u5.heap.size [.int .i64 (volOf (itemsR r) (us ++ [u])), .int .i64 (gramOf (itemsR r) (us ++ [u]))]) := Blk.fill2 (unhide Klu6)
           have Zlu7 : u5.heap.size < ((u6.setCell ⟨u5.heap.size, 0, none⟩ (.int .i64 (volOf (itemsR r) (us ++ [u])))).setCell ⟨u5.heap.size, 1, none⟩ (.int .i64 (gramOf (itemsR r) (us ++ [u])))).heap.size := by simpa using Zlu6
           have Ktu7 : Hid (Blk ((u6.setCell ⟨u5.heap.size, 0, none⟩ (.int .i64 (volOf (itemsR r) (us ++ [u])))).setCell ⟨u5.heap.size, 1, none⟩ (.int .i64 (gramOf (itemsR r) (us ++ [u])))) (w.heap.size + 1) [.int .i64 t.id, .int .i64 t.wd, .int .i64 t.ht, .int .i64 t.dp, .int .i64 t.tare, .int .i64 t.gram, .int .i64 t.cost]) := (((unhide Ktu6).other Nqtl).other Nqtl)
           have Ztu7 : (w.heap.size + 1) < ((u6.setCell ⟨u5.heap.size, 0, none⟩ (.int .i64 (volOf (itemsR r) (us ++ [u])))).setCell ⟨u5.heap.size, 1, none⟩ (.int .i64 (gramOf (itemsR r) (us ++ [u])))).heap.size := by simpa using Ztu6
           clear hHeld
           clear Bu6 Ktu6 Ztu6 Klu6 Zlu6
           generalize ((u6.setCell ⟨u5.heap.size, 0, none⟩ (.int .i64 (volOf (itemsR r) (us ++ [u])))).setCell ⟨u5.heap.size, 1, none⟩ (.int .i64 (gramOf (itemsR r) (us ++ [u])))) = u7 at *
           refine hK.out _ _ (fun hn => absurd (by decide) hn) ?_
           clear hK K
           try simp only [Act.put, getElem_toArray, getElem_cons_zero, getElem_cons_succ, setIfInBounds_toArray, set_cons_zero, set_cons_succ]
           refine wpTo_done (by kernel_rfl) ?_ _
           refine NoPanic.normal ?_
           go_wp2_with fail
           go_meet
           case rel => exact ⟨_, rfl, unhide Klu7, unhide Ktu7, unhide Bu7⟩
          exact AllTo.nil
         exact AllTo.nil
        refine AllTo.cons (o := _) rfl (fun K hK => ?_) ?_
        ·
         (try simp only [getElem_toArray, getElem_cons_zero, getElem_cons_succ])
         have Bu5 := hide ((unhide Bu4).alloc (unhide Bu4).size (.cells #[.int .i64 0, .int .i64 0] 85))
         have Klu5 : Hid (Blk (u4.alloc (.cells #[.int .i64 0, .int .i64 0] 85)) u4.heap.size [.int .i64 0, .int .i64 0]) := Blk.allocAt [.int .i64 0, .int .i64 0] rfl
         have Zlu5 := lt_alloc_new u4 (.cells #[.int .i64 0, .int .i64 0] 85)
         have Gl : w.heap.size ≤ u4.heap.size := (unhide Bu4).size
         have Kau5 := hide ((unhide Kau4).allocOld Zau4 (.cells #[.int .i64 0, .int .i64 0] 85))
         have Zau5 := lt_alloc Zau4 (.cells #[.int .i64 0, .int .i64 0] 85)
         have Ktu5 := hide ((unhide Ktu4).allocOld Ztu4 (.cells #[.int .i64 0, .int .i64 0] 85))
         have Ztu5 := lt_alloc Ztu4 (.cells #[.int .i64 0, .int .i64 0] 85)
         have Nqtl : (w.heap.size + 1) ≠ u4.heap.size := Nat.ne_of_lt Ztu4
         have Kuu5 := hide ((unhide Kuu4).allocOld Zuu4 (.cells #[.int .i64 0, .int .i64 0] 85))
         have Zuu5 := lt_alloc Zuu4 (.cells #[.int .i64 0, .int .i64 0] 85)
         have Nqul : u1.heap.size ≠ u4.heap.size := Nat.ne_of_lt Zuu4
         have Nqlu := Ne.symm Nqul
         have Oku5 := hide ((unhide Oku4).alloc (.cells #[.int .i64 0, .int .i64 0] 85))
         go_simp
         clear hHeld
         clear Bu4 Kau4 Zau4 Ktu4 Ztu4 Kuu4 Zuu4 Oku4
         generalize (u4.alloc (.cells #[.int .i64 0, .int .i64 0] 85)) = u5 at *
         have hHeld := hSmk u5 (unhide Kau5)
         refine hK.out _ _ (fun _ => hHeld) ?_
         clear hK K
         try simp only [Act.put, getElem_toArray, getElem_cons_zero, getElem_cons_succ, setIfInBounds_toArray, set_cons_zero, set_cons_succ]
         refine wpTo_ready (rs := [8]) (by kernel_rfl) (by simp) ?_
         refine AllTo.cons (o := _) rfl (fun K hK => ?_) ?_
         ·
          (try simp only [getElem_toArray, getElem_cons_zero, getElem_cons_succ])
          go_simp
          refine (l7Of_any r h aa na ca (some ⟨ga4, 0, none⟩) (n + 1) cap4 (us ++ [u]) u5 ((unhide HR).mono (unhide Bu5)) ((unhide HA).mono (unhide Bu5)) (Rd.of_owns (unhide Oku5)) (by omega)).mono ?_
          rintro e u6 ⟨rfl, hb⟩
          have Bu6 := hide ((unhide Bu5).trans (hb.mono (unhide Bu5).size))
          have Kau6 := hide (Blk.below hb Zau5 (unhide Kau5))
          have Zau6 := Nat.lt_of_lt_of_le Zau5 hb.size
          have Ktu6 := hide (Blk.below hb Ztu5 (unhide Ktu5))
          have Ztu6 := Nat.lt_of_lt_of_le Ztu5 hb.size
          have Kuu6 := hide (Blk.below hb Zuu5 (unhide Kuu5))
          have Zuu6 := Nat.lt_of_lt_of_le Zuu5 hb.size
          have Klu6 := hide (Blk.below hb Zlu5 (unhide Klu5))
          have Zlu6 := Nat.lt_of_lt_of_le Zlu5 hb.size
          have Oku6 := hide (own_later (unhide Oku5) hb)
          clear hb
          clear Bu5 Kau5 Zau5 Ktu5 Ztu5 Kuu5 Zuu5 Klu5 Zlu5 Oku5
          clear hHeld
          go_wp2_with fail
          have hHeld := hSmk u6 (unhide Kau6)
          refine hK.out _ _ (fun _ => hHeld) ?_
          clear hK K
          try simp only [Act.put, getElem_toArray, getElem_cons_zero, getElem_cons_succ, setIfInBounds_toArray, set_cons_zero, set_cons_succ]
          refine wpTo_ready (rs := [10]) (by kernel_rfl) (by simp) ?_
          refine AllTo.cons (o := _) rfl (fun K hK => ?_) ?_
          ·
           (try simp only [getElem_toArray, getElem_cons_zero, getElem_cons_succ])
           clear Kuu6 Zuu6
           clear Oku6
           clear Kau6 Zau6
           have p0 := ((unhide Klu6) 0 (by simp)).1
           have q0 := ((unhide Klu6) 0 (by simp)).2
           have p1 := ((unhide Klu6) 1 (by simp)).1
           have q1 := ((unhide Klu6) 1 (by simp)).2
           go_simp
           clear p0 q0 p1 q1
           have Bu7 : Hid (Below w.heap.size w ((u6.setCell ⟨u4.heap.size, 0, none⟩ (.int .i64 (volOf (itemsR r) (us ++ [u])))).setCell ⟨u4.heap.size, 1, none⟩ (.int .i64 (gramOf (itemsR r) (us ++ [u]))))) := (((unhide Bu6).setCell Gl _).setCell Gl _)
           have Klu7 : Hid (Blk ((u6.setCell ⟨u4.heap.size, 0, none⟩ (.int .i64 (volOf (itemsR r) (us ++ [u])))).setCell ⟨u4.heap.size, 1, none⟩ (.int .i64 (gramOf (itemsR r) (us ++ [u])))) u4.heap.size [.int .i64 (volOf (itemsR r) (us ++ [u])), .int .i64 (gramOf (itemsR r) (us ++ [u]))]) := Blk.fill2 (unhide Klu6)
           have Zlu7 : u4.heap.size < ((u6.setCell ⟨u4.heap.size, 0, none⟩ (.int .i64 (volOf (itemsR r) (us ++ [u])))).setCell ⟨u4.heap.size, 1, none⟩ (.int .i64 (gramOf (itemsR r) (us ++ [u])))).heap.size := by simpa using Zlu6
           have Ktu7 : Hid (Blk ((u6.setCell ⟨u4.heap.size, 0, none⟩ (.int .i64 (volOf (itemsR r) (us ++ [u])))).setCell ⟨u4.heap.size, 1, none⟩ (.int .i64 (gramOf (itemsR r) (us ++ [u])))) (w.heap.size + 1) [.int .i64 t.id, .int .i64 t.wd, .int .i64 t.ht, .int .i64 t.dp, .int .i64 t.tare, .int .i64 t.gram, .int .i64 t.cost]) := (((unhide Ktu6).other Nqtl).other Nqtl)
           have Ztu7 : (w.heap.size + 1) < ((u6.setCell ⟨u4.heap.size, 0, none⟩ (.int .i64 (volOf (itemsR r) (us ++ [u])))).setCell ⟨u4.heap.size, 1, none⟩ (.int .i64 (gramOf (itemsR r) (us ++ [u])))).heap.size := by simpa using Ztu6
           clear hHeld
           clear Bu6 Ktu6 Ztu6 Klu6 Zlu6
           generalize ((u6.setCell ⟨u4.heap.size, 0, none⟩ (.int .i64 (volOf (itemsR r) (us ++ [u])))).setCell ⟨u4.heap.size, 1, none⟩ (.int .i64 (gramOf (itemsR r) (us ++ [u])))) = u7 at *
           refine hK.out _ _ (fun hn => absurd (by decide) hn) ?_
           clear hK K
           try simp only [Act.put, getElem_toArray, getElem_cons_zero, getElem_cons_succ, setIfInBounds_toArray, set_cons_zero, set_cons_succ]
           refine wpTo_done (by kernel_rfl) ?_ _
           refine NoPanic.normal ?_
           go_wp2_with fail
           go_meet
           case rel => exact ⟨_, rfl, unhide Klu7, unhide Ktu7, unhide Bu7⟩
          exact AllTo.nil
         exact AllTo.nil
        exact AllTo.nil
       refine AllTo.cons (o := _) rfl (fun K hK => ?_) ?_
       ·
        (try simp only [getElem_toArray, getElem_cons_zero, getElem_cons_succ])
        have Bu4 := hide ((unhide Bu3).alloc (unhide Bu3).size (.cells #[.int .i64 0, .int .i64 0] 85))
        have Klu4 : Hid (Blk (u3.alloc (.cells #[.int .i64 0, .int .i64 0] 85)) u3.heap.size [.int .i64 0, .int .i64 0]) := Blk.allocAt [.int .i64 0, .int .i64 0] rfl
        have Zlu4 := lt_alloc_new u3 (.cells #[.int .i64 0, .int .i64 0] 85)
        have Gl : w.heap.size ≤ u3.heap.size := (unhide Bu3).size
        have Kau4 := hide ((unhide Kau3).allocOld Zau3 (.cells #[.int .i64 0, .int .i64 0] 85))
        have Zau4 := lt_alloc Zau3 (.cells #[.int .i64 0, .int .i64 0] 85)
        have Ktu4 := hide ((unhide Ktu3).allocOld Ztu3 (.cells #[.int .i64 0, .int .i64 0] 85))
        have Ztu4 := lt_alloc Ztu3 (.cells #[.int .i64 0, .int .i64 0] 85)
        have Nqtl : (w.heap.size + 1) ≠ u3.heap.size := Nat.ne_of_lt Ztu3
        have Kuu4 := hide ((unhide Kuu3).allocOld Zuu3 (.cells #[.int .i64 0, .int .i64 0] 85))
        have Zuu4 := lt_alloc Zuu3 (.cells #[.int .i64 0, .int .i64 0] 85)
        have Nqul : u1.heap.size ≠ u3.heap.size := Nat.ne_of_lt Zuu3
        have Nqlu := Ne.symm Nqul
        have Ofu4 := hide ((unhide Ofu3).alloc (.cells #[.int .i64 0, .int .i64 0] 85))
        have Nqlf : u3.heap.size ≠ ga3 := Nat.ne_of_gt ((unhide Ofu3).lt _ rfl).2
        go_simp
        clear hHeld
        clear Bu3 Kau3 Zau3 Ktu3 Ztu3 Kuu3 Zuu3 Ofu3
        generalize (u3.alloc (.cells #[.int .i64 0, .int .i64 0] 85)) = u4 at *
        have hHeld := hSmk u4 (unhide Kau4)
        refine hK.out _ _ (fun _ => hHeld) ?_
        clear hK K
        try simp only [Act.put, getElem_toArray, getElem_cons_zero, getElem_cons_succ, setIfInBounds_toArray, set_cons_zero, set_cons_succ]
        refine wpTo_ready (rs := [7]) (by kernel_rfl) (by simp) ?_
        refine AllTo.cons (o := _) rfl (fun K hK => ?_) ?_
        ·
         skip
         refine step_append_some _ (by rfl) _ _ 31 (by rfl) w.heap.size 3 i0 (.int .i64 0) 1 8 Tryz.underlying31 hi hz0 hz1 hz2 rfl (by omega) (.slice (some ⟨ga3, 0, none⟩) (n) cap3) (n) (us.map (Value.int .i64)) (by rfl) (unhide Ofu4) (by simp) ⟨u1.heap.size, 0, none⟩ (1) (1) ([.int .i64 u]) (by rfl) rfl (unhide Kuu4).news (by simp [Value.oneCell']) (by unfold maxLen; omega) (by omega) (unhide Bu4).size ?_
         intro ga5 cap5 u5 ho hg hat hlt
         rw [show us.map (Value.int .i64) ++ [.int .i64 u] = (us ++ [u]).map (Value.int .i64) from by simp] at ho
         have Bu5 : Hid (Below w.heap.size w u5) := (unhide Bu4).grown hg (unhide Bu4).size (fun b hb => by have := own_base (unhide Ofu4); simp [Value.ownBlock] at hb; omega)
         have Kau5 := hide (Blk.gb (unhide Kau4) hg Zau4 Nqaf)
         have Zau5 := Nat.lt_of_lt_of_le Zau4 hg.size
         have Ktu5 := hide (Blk.gb (unhide Ktu4) hg Ztu4 Nqtf)
         have Ztu5 := Nat.lt_of_lt_of_le Ztu4 hg.size
         have Kuu5 := hide (Blk.gb (unhide Kuu4) hg Zuu4 Nquf)
         have Zuu5 := Nat.lt_of_lt_of_le Zuu4 hg.size
         have Klu5 := hide (Blk.gb (unhide Klu4) hg Zlu4 Nqlf)
         have Zlu5 := Nat.lt_of_lt_of_le Zlu4 hg.size
         have Oku5 : Hid (u5.ownsRow w.heap.size 3 1 (.slice (some ⟨ga5, 0, none⟩) (n + 1) cap5) (n + 1) ((us ++ [u]).map (Value.int .i64))) := ho
         clear ho hg hat hlt hHeld
         clear Bu4 Kau4 Zau4 Ktu4 Ztu4 Kuu4 Zuu4 Klu4 Zlu4 Ofu4
         have hHeld := hSmk u5 (unhide Kau5)
         refine hK.out _ _ (fun _ => hHeld) ?_
         clear hK K
         try simp only [Act.put, getElem_toArray, getElem_cons_zero, getElem_cons_succ, setIfInBounds_toArray, set_cons_zero, set_cons_succ]
         refine wpTo_ready (rs := [8]) (by kernel_rfl) (by simp) ?_
         refine AllTo.cons (o := _) rfl (fun K hK => ?_) ?_
         ·
          (try simp only [getElem_toArray, getElem_cons_zero, getElem_cons_succ])
          go_simp
          refine (l7Of_any r h aa na ca (some ⟨ga5, 0, none⟩) (n + 1) cap5 (us ++ [u]) u5 ((unhide HR).mono (unhide Bu5)) ((unhide HA).mono (unhide Bu5)) (Rd.of_owns (unhide Oku5)) (by omega)).mono ?_
          rintro e u6 ⟨rfl, hb⟩
          have Bu6 := hide ((unhide Bu5).trans (hb.mono (unhide Bu5).size))
          have Kau6 := hide (Blk.below hb Zau5 (unhide Kau5))
          have Zau6 := Nat.lt_of_lt_of_le Zau5 hb.size
          have Ktu6 := hide (Blk.below hb Ztu5 (unhide Ktu5))
          have Ztu6 := Nat.lt_of_lt_of_le Ztu5 hb.size
          have Kuu6 := hide (Blk.below hb Zuu5 (unhide Kuu5))
          have Zuu6 := Nat.lt_of_lt_of_le Zuu5 hb.size
          have Klu6 := hide (Blk.below hb Zlu5 (unhide Klu5))
          have Zlu6 := Nat.lt_of_lt_of_le Zlu5 hb.size
          have Oku6 := hide (own_later (unhide Oku5) hb)
          clear hb
          clear Bu5 Kau5 Zau5 Ktu5 Ztu5 Kuu5 Zuu5 Klu5 Zlu5 Oku5
          clear hHeld
          go_wp2_with fail
          have hHeld := hSmk u6 (unhide Kau6)
          refine hK.out _ _ (fun _ => hHeld) ?_
          clear hK K
          try simp only [Act.put, getElem_toArray, getElem_cons_zero, getElem_cons_succ, setIfInBounds_toArray, set_cons_zero, set_cons_succ]
          refine wpTo_ready (rs := [10]) (by kernel_rfl) (by simp) ?_
          refine AllTo.cons (o := _) rfl (fun K hK => ?_) ?_
          ·
           (try simp only [getElem_toArray, getElem_cons_zero, getElem_cons_succ])
           clear Kuu6 Zuu6
           clear Oku6
           clear Kau6 Zau6
           have p0 := ((unhide Klu6) 0 (by simp)).1
           have q0 := ((unhide Klu6) 0 (by simp)).2
           have p1 := ((unhide Klu6) 1 (by simp)).1
           have q1 := ((unhide Klu6) 1 (by simp)).2
           go_simp
           clear p0 q0 p1 q1
           have Bu7 : Hid (Below w.heap.size w ((u6.setCell ⟨u3.heap.size, 0, none⟩ (.int .i64 (volOf (itemsR r) (us ++ [u])))).setCell ⟨u3.heap.size, 1, none⟩ (.int .i64 (gramOf (itemsR r) (us ++ [u]))))) := (((unhide Bu6).setCell Gl _).setCell Gl _)
           have Klu7 : Hid (Blk ((u6.setCell ⟨u3.heap.size, 0, none⟩ (.int .i64 (volOf (itemsR r) (us ++ [u])))).setCell ⟨u3.heap.size, 1, none⟩ (.int .i64 (gramOf (itemsR r) (us ++ [u])))) u3.heap.size [.int .i64 (volOf (itemsR r) (us ++ [u])), .int .i64 (gramOf (itemsR r) (us ++ [u]))]) := Blk.fill2 (unhide Klu6)
           have Zlu7 : u3.heap.size < ((u6.setCell ⟨u3.heap.size, 0, none⟩ (.int .i64 (volOf (itemsR r) (us ++ [u])))).setCell ⟨u3.heap.size, 1, none⟩ (.int .i64 (gramOf (itemsR r) (us ++ [u])))).heap.size := by simpa using Zlu6
           have Ktu7 : Hid (Blk ((u6.setCell ⟨u3.heap.size, 0, none⟩ (.int .i64 (volOf (itemsR r) (us ++ [u])))).setCell ⟨u3.heap.size, 1, none⟩ (.int .i64 (gramOf (itemsR r) (us ++ [u])))) (w.heap.size + 1) [.int .i64 t.id, .int .i64 t.wd, .int .i64 t.ht, .int .i64 t.dp, .int .i64 t.tare, .int .i64 t.gram, .int .i64 t.cost]) := (((unhide Ktu6).other Nqtl).other Nqtl)
           have Ztu7 : (w.heap.size + 1) < ((u6.setCell ⟨u3.heap.size, 0, none⟩ (.int .i64 (volOf (itemsR r) (us ++ [u])))).setCell ⟨u3.heap.size, 1, none⟩ (.int .i64 (gramOf (itemsR r) (us ++ [u])))).heap.size := by simpa using Ztu6
           clear hHeld
           clear Bu6 Ktu6 Ztu6 Klu6 Zlu6
           generalize ((u6.setCell ⟨u3.heap.size, 0, none⟩ (.int .i64 (volOf (itemsR r) (us ++ [u])))).setCell ⟨u3.heap.size, 1, none⟩ (.int .i64 (gramOf (itemsR r) (us ++ [u])))) = u7 at *
           refine hK.out _ _ (fun hn => absurd (by decide) hn) ?_
           clear hK K
           try simp only [Act.put, getElem_toArray, getElem_cons_zero, getElem_cons_succ, setIfInBounds_toArray, set_cons_zero, set_cons_succ]
           refine wpTo_done (by kernel_rfl) ?_ _
           refine NoPanic.normal ?_
           go_wp2_with fail
           go_meet
           case rel => exact ⟨_, rfl, unhide Klu7, unhide Ktu7, unhide Bu7⟩
          exact AllTo.nil
         exact AllTo.nil
        exact AllTo.nil
       exact AllTo.nil
      refine AllTo.cons (o := _) rfl (fun K hK => ?_) ?_
      ·
       (try simp only [getElem_toArray, getElem_cons_zero, getElem_cons_succ])
       have Bu3 := hide ((unhide Bu2).alloc (unhide Bu2).size (.cells #[.int .i64 0, .int .i64 0] 85))
       have Klu3 : Hid (Blk (u2.alloc (.cells #[.int .i64 0, .int .i64 0] 85)) u2.heap.size [.int .i64 0, .int .i64 0]) := Blk.allocAt [.int .i64 0, .int .i64 0] rfl
       have Zlu3 := lt_alloc_new u2 (.cells #[.int .i64 0, .int .i64 0] 85)
       have Gl : w.heap.size ≤ u2.heap.size := (unhide Bu2).size
       have Kau3 := hide ((unhide Kau2).allocOld Zau2 (.cells #[.int .i64 0, .int .i64 0] 85))
       have Zau3 := lt_alloc Zau2 (.cells #[.int .i64 0, .int .i64 0] 85)
       have Ktu3 := hide ((unhide Ktu2).allocOld Ztu2 (.cells #[.int .i64 0, .int .i64 0] 85))
       have Ztu3 := lt_alloc Ztu2 (.cells #[.int .i64 0, .int .i64 0] 85)
       have Nqtl : (w.heap.size + 1) ≠ u2.heap.size := Nat.ne_of_lt Ztu2
       have Kuu3 := hide ((unhide Kuu2).allocOld Zuu2 (.cells #[.int .i64 0, .int .i64 0] 85))
       have Zuu3 := lt_alloc Zuu2 (.cells #[.int .i64 0, .int .i64 0] 85)
       have Nqul : u1.heap.size ≠ u2.heap.size := Nat.ne_of_lt Zuu2
       have Nqlu := Ne.symm Nqul
       have Oeu3 := hide ((unhide Oeu2).alloc (.cells #[.int .i64 0, .int .i64 0] 85))
       have Nqle : u2.heap.size ≠ u0.heap.size := Nat.ne_of_gt ((unhide Oeu2).lt _ rfl).2
       go_simp
       clear hHeld
       clear Bu2 Kau2 Zau2 Ktu2 Ztu2 Kuu2 Zuu2 Oeu2
       generalize (u2.alloc (.cells #[.int .i64 0, .int .i64 0] 85)) = u3 at *
       have hHeld := hSmk u3 (unhide Kau3)
       refine hK.out _ _ (fun _ => hHeld) ?_
       clear hK K
       try simp only [Act.put, getElem_toArray, getElem_cons_zero, getElem_cons_succ, setIfInBounds_toArray, set_cons_zero, set_cons_succ]
       refine wpTo_ready (rs := [4]) (by kernel_rfl) (by simp) ?_
       refine AllTo.cons (o := _) rfl (fun K hK => ?_) ?_
       ·
        skip
        refine step_append_some _ (by rfl) _ _ 31 (by rfl) w.heap.size 3 i0 (.int .i64 0) 1 8 Tryz.underlying31 hi hz0 hz1 hz2 rfl (by omega) (.slice (some ⟨u0.heap.size, 0, none⟩) (0) 0) (0) ([]) (by rfl) (unhide Oeu3) (by simp) ⟨b, off, none⟩ (n) (c) (us.map (Value.int .i64)) (by rfl) (unhide HU).news_len ((unhide HU).mono (unhide Bu3)).news (news_one us) (by unfold maxLen; omega) (by omega) (unhide Bu3).size ?_
        intro ga4 cap4 u4 ho hg hat hlt
        rw [Nat.zero_add] at ho ⊢
        rw [List.nil_append] at ho
        have Bu4 : Hid (Below w.heap.size w u4) := (unhide Bu3).grown hg (unhide Bu3).size (fun b hb => by have := own_base (unhide Oeu3); simp [Value.ownBlock] at hb; omega)
        have Kau4 := hide (Blk.gb (unhide Kau3) hg Zau3 Nqae)
        have Zau4 := Nat.lt_of_lt_of_le Zau3 hg.size
        have Nqaf := ne_new hat Nqae Zau3
        have Ktu4 := hide (Blk.gb (unhide Ktu3) hg Ztu3 Nqte)
        have Ztu4 := Nat.lt_of_lt_of_le Ztu3 hg.size
        have Nqtf := ne_new hat Nqte Ztu3
        have Kuu4 := hide (Blk.gb (unhide Kuu3) hg Zuu3 Nque)
        have Zuu4 := Nat.lt_of_lt_of_le Zuu3 hg.size
        have Nquf := ne_new hat Nque Zuu3
        have Klu4 := hide (Blk.gb (unhide Klu3) hg Zlu3 Nqle)
        have Zlu4 := Nat.lt_of_lt_of_le Zlu3 hg.size
        have Nqlf := ne_new hat Nqle Zlu3
        have Ofu4 : Hid (u4.ownsRow w.heap.size 3 1 (.slice (some ⟨ga4, 0, none⟩) (n) cap4) (n) (us.map (Value.int .i64))) := ho
        clear ho hg hat hlt hHeld
        clear Bu3 Kau3 Zau3 Ktu3 Ztu3 Kuu3 Zuu3 Klu3 Zlu3 Oeu3
        have hHeld := hSmk u4 (unhide Kau4)
        refine hK.out _ _ (fun _ => hHeld) ?_
        clear hK K
        try simp only [Act.put, getElem_toArray, getElem_cons_zero, getElem_cons_succ, setIfInBounds_toArray, set_cons_zero, set_cons_succ]
        refine wpTo_ready (rs := [7]) (by kernel_rfl) (by simp) ?_
        refine AllTo.cons (o := _) rfl (fun K hK => ?_) ?_
        ·
         skip
         refine step_append_some _ (by rfl) _ _ 31 (by rfl) w.heap.size 3 i0 (.int .i64 0) 1 8 Tryz.underlying31 hi hz0 hz1 hz2 rfl (by omega) (.slice (some ⟨ga4, 0, none⟩) (n) cap4) (n) (us.map (Value.int .i64)) (by rfl) (unhide Ofu4) (by simp) ⟨u1.heap.size, 0, none⟩ (1) (1) ([.int .i64 u]) (by rfl) rfl (unhide Kuu4).news (by simp [Value.oneCell']) (by unfold maxLen; omega) (by omega) (unhide Bu4).size ?_
         intro ga5 cap5 u5 ho hg hat hlt
         rw [show us.map (Value.int .i64) ++ [.int .i64 u] = (us ++ [u]).map (Value.int .i64) from by simp] at ho
         have Bu5 : Hid (Below w.heap.size w u5) := (unhide Bu4).grown hg (unhide Bu4).size (fun b hb => by have := own_base (unhide Ofu4); simp [Value.ownBlock] at hb; omega)
         have Kau5 := hide (Blk.gb (unhide Kau4) hg Zau4 Nqaf)
         have Zau5 := Nat.lt_of_lt_of_le Zau4 hg.size
         have Ktu5 := hide (Blk.gb (unhide Ktu4) hg Ztu4 Nqtf)
         have Ztu5 := Nat.lt_of_lt_of_le Ztu4 hg.size
         have Kuu5 := hide (Blk.gb (unhide Kuu4) hg Zuu4 Nquf)
         have Zuu5 := Nat.lt_of_lt_of_le Zuu4 hg.size
         have Klu5 := hide (Blk.gb (unhide Klu4) hg Zlu4 Nqlf)
         have Zlu5 := Nat.lt_of_lt_of_le Zlu4 hg.size
         have Oku5 : Hid (u5.ownsRow w.heap.size 3 1 (.slice (some ⟨ga5, 0, none⟩) (n + 1) cap5) (n + 1) ((us ++ [u]).map (Value.int .i64))) := ho
         clear ho hg hat hlt hHeld
         clear Bu4 Kau4 Zau4 Ktu4 Ztu4 Kuu4 Zuu4 Klu4 Zlu4 Ofu4
         have hHeld := hSmk u5 (unhide Kau5)
         refine hK.out _ _ (fun _ => hHeld) ?_
         clear hK K
         try simp only [Act.put, getElem_toArray, getElem_cons_zero, getElem_cons_succ, setIfInBounds_toArray, set_cons_zero, set_cons_succ]
         refine wpTo_ready (rs := [8]) (by kernel_rfl) (by simp) ?_
         refine AllTo.cons (o := _) rfl (fun K hK => ?_) ?_
         ·
          (try simp only [getElem_toArray, getElem_cons_zero, getElem_cons_succ])
          go_simp
          refine (l7Of_any r h aa na ca (some ⟨ga5, 0, none⟩) (n + 1) cap5 (us ++ [u]) u5 ((unhide HR).mono (unhide Bu5)) ((unhide HA).mono (unhide Bu5)) (Rd.of_owns (unhide Oku5)) (by omega)).mono ?_
          rintro e u6 ⟨rfl, hb⟩
          have Bu6 := hide ((unhide Bu5).trans (hb.mono (unhide Bu5).size))
          have Kau6 := hide (Blk.below hb Zau5 (unhide Kau5))
          have Zau6 := Nat.lt_of_lt_of_le Zau5 hb.size
          have Ktu6 := hide (Blk.below hb Ztu5 (unhide Ktu5))
          have Ztu6 := Nat.lt_of_lt_of_le Ztu5 hb.size
          have Kuu6 := hide (Blk.below hb Zuu5 (unhide Kuu5))
          have Zuu6 := Nat.lt_of_lt_of_le Zuu5 hb.size
          have Klu6 := hide (Blk.below hb Zlu5 (unhide Klu5))
          have Zlu6 := Nat.lt_of_lt_of_le Zlu5 hb.size
          have Oku6 := hide (own_later (unhide Oku5) hb)
          clear hb
          clear Bu5 Kau5 Zau5 Ktu5 Ztu5 Kuu5 Zuu5 Klu5 Zlu5 Oku5
          clear hHeld
          go_wp2_with fail
          have hHeld := hSmk u6 (unhide Kau6)
          refine hK.out _ _ (fun _ => hHeld) ?_
          clear hK K
          try simp only [Act.put, getElem_toArray, getElem_cons_zero, getElem_cons_succ, setIfInBounds_toArray, set_cons_zero, set_cons_succ]
          refine wpTo_ready (rs := [10]) (by kernel_rfl) (by simp) ?_
          refine AllTo.cons (o := _) rfl (fun K hK => ?_) ?_
          ·
           (try simp only [getElem_toArray, getElem_cons_zero, getElem_cons_succ])
           clear Kuu6 Zuu6
           clear Oku6
           clear Kau6 Zau6
           have p0 := ((unhide Klu6) 0 (by simp)).1
           have q0 := ((unhide Klu6) 0 (by simp)).2
           have p1 := ((unhide Klu6) 1 (by simp)).1
           have q1 := ((unhide Klu6) 1 (by simp)).2
           go_simp
           clear p0 q0 p1 q1
           have Bu7 : Hid (Below w.heap.size w ((u6.setCell ⟨u2.heap.size, 0, none⟩ (.int .i64 (volOf (itemsR r) (us ++ [u])))).setCell ⟨u2.heap.size, 1, none⟩ (.int .i64 (gramOf (itemsR r) (us ++ [u]))))) := (((unhide Bu6).setCell Gl _).setCell Gl _)
           have Klu7 : Hid (Blk ((u6.setCell ⟨u2.heap.size, 0, none⟩ (.int .i64 (volOf (itemsR r) (us ++ [u])))).setCell ⟨u2.heap.size, 1, none⟩ (.int .i64 (gramOf (itemsR r) (us ++ [u])))) u2.heap.size [.int .i64 (volOf (itemsR r) (us ++ [u])), .int .i64 (gramOf (itemsR r) (us ++ [u]))]) := Blk.fill2 (unhide Klu6)
           have Zlu7 : u2.heap.size < ((u6.setCell ⟨u2.heap.size, 0, none⟩ (.int .i64 (volOf (itemsR r) (us ++ [u])))).setCell ⟨u2.heap.size, 1, none⟩ (.int .i64 (gramOf (itemsR r) (us ++ [u])))).heap.size := by simpa using Zlu6
           have Ktu7 : Hid (Blk ((u6.setCell ⟨u2.heap.size, 0, none⟩ (.int .i64 (volOf (itemsR r) (us ++ [u])))).setCell ⟨u2.heap.size, 1, none⟩ (.int .i64 (gramOf (itemsR r) (us ++ [u])))) (w.heap.size + 1) [.int .i64 t.id, .int .i64 t.wd, .int .i64 t.ht, .int .i64 t.dp, .int .i64 t.tare, .int .i64 t.gram, .int .i64 t.cost]) := (((unhide Ktu6).other Nqtl).other Nqtl)
           have Ztu7 : (w.heap.size + 1) < ((u6.setCell ⟨u2.heap.size, 0, none⟩ (.int .i64 (volOf (itemsR r) (us ++ [u])))).setCell ⟨u2.heap.size, 1, none⟩ (.int .i64 (gramOf (itemsR r) (us ++ [u])))).heap.size := by simpa using Ztu6
           clear hHeld
           clear Bu6 Ktu6 Ztu6 Klu6 Zlu6
           generalize ((u6.setCell ⟨u2.heap.size, 0, none⟩ (.int .i64 (volOf (itemsR r) (us ++ [u])))).setCell ⟨u2.heap.size, 1, none⟩ (.int .i64 (gramOf (itemsR r) (us ++ [u])))) = u7 at *
           refine hK.out _ _ (fun hn => absurd (by decide) hn) ?_
           clear hK K
           try simp only [Act.put, getElem_toArray, getElem_cons_zero, getElem_cons_succ, setIfInBounds_toArray, set_cons_zero, set_cons_succ]
           refine wpTo_done (by kernel_rfl) ?_ _
           refine NoPanic.normal ?_
           go_wp2_with fail
           go_meet
           case rel => exact ⟨_, rfl, unhide Klu7, unhide Ktu7, unhide Bu7⟩
          exact AllTo.nil
         exact AllTo.nil
        exact AllTo.nil
       exact AllTo.nil
      exact AllTo.nil
     refine AllTo.cons (o := _) rfl (fun K hK => ?_) ?_
     ·
      (try simp only [getElem_toArray, getElem_cons_zero, getElem_cons_succ])
      have Bu2 := hide ((unhide Bu1).alloc (unhide Bu1).size (.cells #[.int .i64 0, .int .i64 0] 85))
      have Klu2 : Hid (Blk (u1.alloc (.cells #[.int .i64 0, .int .i64 0] 85)) u1.heap.size [.int .i64 0, .int .i64 0]) := Blk.allocAt [.int .i64 0, .int .i64 0] rfl
      have Zlu2 := lt_alloc_new u1 (.cells #[.int .i64 0, .int .i64 0] 85)
      have Gl : w.heap.size ≤ u1.heap.size := (unhide Bu1).size
      have Kau2 := hide ((unhide Kau1).allocOld Zau1 (.cells #[.int .i64 0, .int .i64 0] 85))
      have Zau2 := lt_alloc Zau1 (.cells #[.int .i64 0, .int .i64 0] 85)
      have Ktu2 := hide ((unhide Ktu1).allocOld Ztu1 (.cells #[.int .i64 0, .int .i64 0] 85))
      have Ztu2 := lt_alloc Ztu1 (.cells #[.int .i64 0, .int .i64 0] 85)
      have Nqtl : (w.heap.size + 1) ≠ u1.heap.size := Nat.ne_of_lt Ztu1
      have Oeu2 := hide ((unhide Oeu1).alloc (.cells #[.int .i64 0, .int .i64 0] 85))
      have Nqle : u1.heap.size ≠ u0.heap.size := Nat.ne_of_gt ((unhide Oeu1).lt _ rfl).2
      go_simp
      clear hHeld
      clear Bu1 Kau1 Zau1 Ktu1 Ztu1 Oeu1
      generalize (u1.alloc (.cells #[.int .i64 0, .int .i64 0] 85)) = u2 at *
      have hHeld := hSmk u2 (unhide Kau2)
      refine hK.out _ _ (fun _ => hHeld) ?_
      clear hK K
      try simp only [Act.put, getElem_toArray, getElem_cons_zero, getElem_cons_succ, setIfInBounds_toArray, set_cons_zero, set_cons_succ]
      refine wpTo_ready (rs := [4, 6]) (by kernel_rfl) (by simp) ?_
      refine AllTo.cons (o := _) rfl (fun K hK => ?_) ?_
      ·
       skip
       refine step_append_some _ (by rfl) _ _ 31 (by rfl) w.heap.size 3 i0 (.int .i64 0) 1 8 Tryz.underlying31 hi hz0 hz1 hz2 rfl (by omega) (.slice (some ⟨u0.heap.size, 0, none⟩) (0) 0) (0) ([]) (by rfl) (unhide Oeu2) (by simp) ⟨b, off, none⟩ (n) (c) (us.map (Value.int .i64)) (by rfl) (unhide HU).news_len ((unhide HU).mono (unhide Bu2)).news (news_one us) (by unfold maxLen; omega) (by omega) (unhide Bu2).size ?_
       intro ga3 cap3 u3 ho hg hat hlt
       rw [Nat.zero_add] at ho ⊢
       rw [List.nil_append] at ho
       have Bu3 : Hid (Below w.heap.size w u3) := (unhide Bu2).grown hg (unhide Bu2).size (fun b hb => by have := own_base (unhide Oeu2); simp [Value.ownBlock] at hb; omega)
       have Kau3 := hide (Blk.gb (unhide Kau2) hg Zau2 Nqae)
       have Zau3 := Nat.lt_of_lt_of_le Zau2 hg.size
       have Nqaf := ne_new hat Nqae Zau2
       have Ktu3 := hide (Blk.gb (unhide Ktu2) hg Ztu2 Nqte)
       have Ztu3 := Nat.lt_of_lt_of_le Ztu2 hg.size
       have Nqtf := ne_new hat Nqte Ztu2
       have Klu3 := hide (Blk.gb (unhide Klu2) hg Zlu2 Nqle)
       have Zlu3 := Nat.lt_of_lt_of_le Zlu2 hg.size
       have Nqlf := ne_new hat Nqle Zlu2
       have Ofu3 : Hid (u3.ownsRow w.heap.size 3 1 (.slice (some ⟨ga3, 0, none⟩) (n) cap3) (n) (us.map (Value.int .i64))) := ho
       clear ho hg hat hlt hHeld
       clear Bu2 Kau2 Zau2 Ktu2 Ztu2 Klu2 Zlu2 Oeu2
       have hHeld := hSmk u3 (unhide Kau3)
       refine hK.out _ _ (fun _ => hHeld) ?_
       clear hK K
       try simp only [Act.put, getElem_toArray, getElem_cons_zero, getElem_cons_succ, setIfInBounds_toArray, set_cons_zero, set_cons_succ]
       refine wpTo_ready (rs := [6]) (by kernel_rfl) (by simp) ?_
       refine AllTo.cons (o := _) rfl (fun K hK => ?_) ?_
       ·
        (try simp only [getElem_toArray, getElem_cons_zero, getElem_cons_succ])
        have Bu4 := hide ((unhide Bu3).alloc (unhide Bu3).size (.cells #[.int .i64 u] 3))
        have Kuu4 : Hid (Blk (u3.alloc (.cells #[.int .i64 u] 3)) u3.heap.size [.int .i64 u]) := Blk.allocAt [.int .i64 u] rfl
        have Zuu4 := lt_alloc_new u3 (.cells #[.int .i64 u] 3)
        have Gu : w.heap.size ≤ u3.heap.size := (unhide Bu3).size
        have Kau4 := hide ((unhide Kau3).allocOld Zau3 (.cells #[.int .i64 u] 3))
        have Zau4 := lt_alloc Zau3 (.cells #[.int .i64 u] 3)
        have Ktu4 := hide ((unhide Ktu3).allocOld Ztu3 (.cells #[.int .i64 u] 3))
        have Ztu4 := lt_alloc Ztu3 (.cells #[.int .i64 u] 3)
        have Klu4 := hide ((unhide Klu3).allocOld Zlu3 (.cells #[.int .i64 u] 3))
        have Zlu4 := lt_alloc Zlu3 (.cells #[.int .i64 u] 3)
        have Nqlu : u1.heap.size ≠ u3.heap.size := Nat.ne_of_lt Zlu3
        have Nqul := Ne.symm Nqlu
        have Ofu4 := hide ((unhide Ofu3).alloc (.cells #[.int .i64 u] 3))
        have Nquf : u3.heap.size ≠ ga3 := Nat.ne_of_gt ((unhide Ofu3).lt _ rfl).2
        go_simp
        clear hHeld
        clear Bu3 Kau3 Zau3 Ktu3 Ztu3 Klu3 Zlu3 Ofu3
        generalize (u3.alloc (.cells #[.int .i64 u] 3)) = u4 at *
        have hHeld := hSmk u4 (unhide Kau4)
        refine hK.out _ _ (fun _ => hHeld) ?_
        clear hK K
        try simp only [Act.put, getElem_toArray, getElem_cons_zero, getElem_cons_succ, setIfInBounds_toArray, set_cons_zero, set_cons_succ]
        refine wpTo_ready (rs := [7]) (by kernel_rfl) (by simp) ?_
        refine AllTo.cons (o := _) rfl (fun K hK => ?_) ?_
        ·
         skip
         refine step_append_some _ (by rfl) _ _ 31 (by rfl) w.heap.size 3 i0 (.int .i64 0) 1 8 Tryz.underlying31 hi hz0 hz1 hz2 rfl (by omega) (.slice (some ⟨ga3, 0, none⟩) (n) cap3) (n) (us.map (Value.int .i64)) (by rfl) (unhide Ofu4) (by simp) ⟨u3.heap.size, 0, none⟩ (1) (1) ([.int .i64 u]) (by rfl) rfl (unhide Kuu4).news (by simp [Value.oneCell']) (by unfold maxLen; omega) (by omega) (unhide Bu4).size ?_
         intro ga5 cap5 u5 ho hg hat hlt
         rw [show us.map (Value.int .i64) ++ [.int .i64 u] = (us ++ [u]).map (Value.int .i64) from by simp] at ho
         have Bu5 : Hid (Below w.heap.size w u5) := (unhide Bu4).grown hg (unhide Bu4).size (fun b hb => by have := own_base (unhide Ofu4); simp [Value.ownBlock] at hb; omega)
         have Kau5 := hide (Blk.gb (unhide Kau4) hg Zau4 Nqaf)
         have Zau5 := Nat.lt_of_lt_of_le Zau4 hg.size
         have Ktu5 := hide (Blk.gb (unhide Ktu4) hg Ztu4 Nqtf)
         have Ztu5 := Nat.lt_of_lt_of_le Ztu4 hg.size
         have Klu5 := hide (Blk.gb (unhide Klu4) hg Zlu4 Nqlf)
         have Zlu5 := Nat.lt_of_lt_of_le Zlu4 hg.size
         have Kuu5 := hide (Blk.gb (unhide Kuu4) hg Zuu4 Nquf)
         have Zuu5 := Nat.lt_of_lt_of_le Zuu4 hg.size
         have Oku5 : Hid (u5.ownsRow w.heap.size 3 1 (.slice (some ⟨ga5, 0, none⟩) (n + 1) cap5) (n + 1) ((us ++ [u]).map (Value.int .i64))) := ho
         clear ho hg hat hlt hHeld
         clear Bu4 Kau4 Zau4 Ktu4 Ztu4 Klu4 Zlu4 Kuu4 Zuu4 Ofu4
         have hHeld := hSmk u5 (unhide Kau5)
         refine hK.out _ _ (fun _ => hHeld) ?_
         clear hK K
         try simp only [Act.put, getElem_toArray, getElem_cons_zero, getElem_cons_succ, setIfInBounds_toArray, set_cons_zero, set_cons_succ]
         refine wpTo_ready (rs := [8]) (by kernel_rfl) (by simp) ?_
         refine AllTo.cons (o := _) rfl (fun K hK => ?_) ?_
         ·
          (try simp only [getElem_toArray, getElem_cons_zero, getElem_cons_succ])
          go_simp
          refine (l7Of_any r h aa na ca (some ⟨ga5, 0, none⟩) (n + 1) cap5 (us ++ [u]) u5 ((unhide HR).mono (unhide Bu5)) ((unhide HA).mono (unhide Bu5)) (Rd.of_owns (unhide Oku5)) (by omega)).mono ?_
          rintro e u6 ⟨rfl, hb⟩
          have Bu6 := hide ((unhide Bu5).trans (hb.mono (unhide Bu5).size))
          have Kau6 := hide (Blk.below hb Zau5 (unhide Kau5))
          have Zau6 := Nat.lt_of_lt_of_le Zau5 hb.size
          have Ktu6 := hide (Blk.below hb Ztu5 (unhide Ktu5))
          have Ztu6 := Nat.lt_of_lt_of_le Ztu5 hb.size
          have Klu6 := hide (Blk.below hb Zlu5 (unhide Klu5))
          have Zlu6 := Nat.lt_of_lt_of_le Zlu5 hb.size
          have Kuu6 := hide (Blk.below hb Zuu5 (unhide Kuu5))
          have Zuu6 := Nat.lt_of_lt_of_le Zuu5 hb.size
          have Oku6 := hide (own_later (unhide Oku5) hb)
          clear hb
          clear Bu5 Kau5 Zau5 Ktu5 Ztu5 Klu5 Zlu5 Kuu5 Zuu5 Oku5
          clear hHeld
          go_wp2_with fail
          have hHeld := hSmk u6 (unhide Kau6)
          refine hK.out _ _ (fun _ => hHeld) ?_
          clear hK K
          try simp only [Act.put, getElem_toArray, getElem_cons_zero, getElem_cons_succ, setIfInBounds_toArray, set_cons_zero, set_cons_succ]
          refine wpTo_ready (rs := [10]) (by kernel_rfl) (by simp) ?_
          refine AllTo.cons (o := _) rfl (fun K hK => ?_) ?_
          ·
           (try simp only [getElem_toArray, getElem_cons_zero, getElem_cons_succ])
           clear Kuu6 Zuu6
           clear Oku6
           clear Kau6 Zau6
           have p0 := ((unhide Klu6) 0 (by simp)).1
           have q0 := ((unhide Klu6) 0 (by simp)).2
           have p1 := ((unhide Klu6) 1 (by simp)).1
           have q1 := ((unhide Klu6) 1 (by simp)).2
           go_simp
           clear p0 q0 p1 q1
           have Bu7 : Hid (Below w.heap.size w ((u6.setCell ⟨u1.heap.size, 0, none⟩ (.int .i64 (volOf (itemsR r) (us ++ [u])))).setCell ⟨u1.heap.size, 1, none⟩ (.int .i64 (gramOf (itemsR r) (us ++ [u]))))) := (((unhide Bu6).setCell Gl _).setCell Gl _)
           have Klu7 : Hid (Blk ((u6.setCell ⟨u1.heap.size, 0, none⟩ (.int .i64 (volOf (itemsR r) (us ++ [u])))).setCell ⟨u1.heap.size, 1, none⟩ (.int .i64 (gramOf (itemsR r) (us ++ [u])))) u1.heap.size [.int .i64 (volOf (itemsR r) (us ++ [u])), .int .i64 (gramOf (itemsR r) (us ++ [u]))]) := Blk.fill2 (unhide Klu6)
           have Zlu7 : u1.heap.size < ((u6.setCell ⟨u1.heap.size, 0, none⟩ (.int .i64 (volOf (itemsR r) (us ++ [u])))).setCell ⟨u1.heap.size, 1, none⟩ (.int .i64 (gramOf (itemsR r) (us ++ [u])))).heap.size := by simpa using Zlu6
           have Ktu7 : Hid (Blk ((u6.setCell ⟨u1.heap.size, 0, none⟩ (.int .i64 (volOf (itemsR r) (us ++ [u])))).setCell ⟨u1.heap.size, 1, none⟩ (.int .i64 (gramOf (itemsR r) (us ++ [u])))) (w.heap.size + 1) [.int .i64 t.id, .int .i64 t.wd, .int .i64 t.ht, .int .i64 t.dp, .int .i64 t.tare, .int .i64 t.gram, .int .i64 t.cost]) := (((unhide Ktu6).other Nqtl).other Nqtl)
           have Ztu7 : (w.heap.size + 1) < ((u6.setCell ⟨u1.heap.size, 0, none⟩ (.int .i64 (volOf (itemsR r) (us ++ [u])))).setCell ⟨u1.heap.size, 1, none⟩ (.int .i64 (gramOf (itemsR r) (us ++ [u])))).heap.size := by simpa using Ztu6
           clear hHeld
           clear Bu6 Ktu6 Ztu6 Klu6 Zlu6
           generalize ((u6.setCell ⟨u1.heap.size, 0, none⟩ (.int .i64 (volOf (itemsR r) (us ++ [u])))).setCell ⟨u1.heap.size, 1, none⟩ (.int .i64 (gramOf (itemsR r) (us ++ [u])))) = u7 at *
           refine hK.out _ _ (fun hn => absurd (by decide) hn) ?_
           clear hK K
           try simp only [Act.put, getElem_toArray, getElem_cons_zero, getElem_cons_succ, setIfInBounds_toArray, set_cons_zero, set_cons_succ]
           refine wpTo_done (by kernel_rfl) ?_ _
           refine NoPanic.normal ?_
           go_wp2_with fail
           go_meet
           case rel => exact ⟨_, rfl, unhide Klu7, unhide Ktu7, unhide Bu7⟩
          exact AllTo.nil
         exact AllTo.nil
        exact AllTo.nil
       exact AllTo.nil
      refine AllTo.cons (o := _) rfl (fun K hK => ?_) ?_
      ·
       (try simp only [getElem_toArray, getElem_cons_zero, getElem_cons_succ])
       have Bu3 := hide ((unhide Bu2).alloc (unhide Bu2).size (.cells #[.int .i64 u] 3))
       have Kuu3 : Hid (Blk (u2.alloc (.cells #[.int .i64 u] 3)) u2.heap.size [.int .i64 u]) := Blk.allocAt [.int .i64 u] rfl
       have Zuu3 := lt_alloc_new u2 (.cells #[.int .i64 u] 3)
       have Gu : w.heap.size ≤ u2.heap.size := (unhide Bu2).size
       have Kau3 := hide ((unhide Kau2).allocOld Zau2 (.cells #[.int .i64 u] 3))
       have Zau3 := lt_alloc Zau2 (.cells #[.int .i64 u] 3)
       have Ktu3 := hide ((unhide Ktu2).allocOld Ztu2 (.cells #[.int .i64 u] 3))
       have Ztu3 := lt_alloc Ztu2 (.cells #[.int .i64 u] 3)
       have Klu3 := hide ((unhide Klu2).allocOld Zlu2 (.cells #[.int .i64 u] 3))
       have Zlu3 := lt_alloc Zlu2 (.cells #[.int .i64 u] 3)
       have Nqlu : u1.heap.size ≠ u2.heap.size := Nat.ne_of_lt Zlu2
       have Nqul := Ne.symm Nqlu
       have Oeu3 := hide ((unhide Oeu2).alloc (.cells #[.int .i64 u] 3))
       have Nque : u2.heap.size ≠ u0.heap.size := Nat.ne_of_gt ((unhide Oeu2).lt _ rfl).2
       go_simp
       clear hHeld
       clear Bu2 Kau2 Zau2 Ktu2 Ztu2 Klu2 Zlu2 Oeu2
       generalize (u2.alloc (.cells #[.int .i64 u] 3)) = u3 at *
       have hHeld := hSmk u3 (unhide Kau3)
       refine hK.out _ _ (fun _ => hHeld) ?_
       clear hK K
       try simp only [Act.put, getElem_toArray, getElem_cons_zero, getElem_cons_succ, setIfInBounds_toArray, set_cons_zero, set_cons_succ]
       refine wpTo_ready (rs := [4]) (by kernel_rfl) (by simp) ?_
       refine AllTo.cons (o := _) rfl (fun K hK => ?_) ?_
       ·
        skip
        refine step_append_some _ (by rfl) _ _ 31 (by rfl) w.heap.size 3 i0 (.int .i64 0) 1 8 Tryz.underlying31 hi hz0 hz1 hz2 rfl (by omega) (.slice (some ⟨u0.heap.size, 0, none⟩) (0) 0) (0) ([]) (by rfl) (unhide Oeu3) (by simp) ⟨b, off, none⟩ (n) (c) (us.map (Value.int .i64)) (by rfl) (unhide HU).news_len ((unhide HU).mono (unhide Bu3)).news (news_one us) (by unfold maxLen; omega) (by omega) (unhide Bu3).size ?_
        intro ga4 cap4 u4 ho hg hat hlt
        rw [Nat.zero_add] at ho ⊢
        rw [List.nil_append] at ho
        have Bu4 : Hid (Below w.heap.size w u4) := (unhide Bu3).grown hg (unhide Bu3).size (fun b hb => by have := own_base (unhide Oeu3); simp [Value.ownBlock] at hb; omega)
        have Kau4 := hide (Blk.gb (unhide Kau3) hg Zau3 Nqae)
        have Zau4 := Nat.lt_of_lt_of_le Zau3 hg.size
        have Nqaf := ne_new hat Nqae Zau3
        have Ktu4 := hide (Blk.gb (unhide Ktu3) hg Ztu3 Nqte)
        have Ztu4 := Nat.lt_of_lt_of_le Ztu3 hg.size
        have Nqtf := ne_new hat Nqte Ztu3
        have Klu4 := hide (Blk.gb (unhide Klu3) hg Zlu3 Nqle)
        have Zlu4 := Nat.lt_of_lt_of_le Zlu3 hg.size
        have Nqlf := ne_new hat Nqle Zlu3
        have Kuu4 := hide (Blk.gb (unhide Kuu3) hg Zuu3 Nque)
        have Zuu4 := Nat.lt_of_lt_of_le Zuu3 hg.size
        have Nquf := ne_new hat Nque Zuu3
        have Ofu4 : Hid (u4.ownsRow w.heap.size 3 1 (.slice (some ⟨ga4, 0, none⟩) (n) cap4) (n) (us.map (Value.int .i64))) := ho
        clear ho hg hat hlt hHeld
        clear Bu3 Kau3 Zau3 Ktu3 Ztu3 Klu3 Zlu3 Kuu3 Zuu3 Oeu3
        have hHeld := hSmk u4 (unhide Kau4)
        refine hK.out _ _ (fun _ => hHeld) ?_
        clear hK K
        try simp only [Act.put, getElem_toArray, getElem_cons_zero, getElem_cons_succ, setIfInBounds_toArray, set_cons_zero, set_cons_succ]
        refine wpTo_ready (rs := [7]) (by kernel_rfl) (by simp) ?_
        refine AllTo.cons (o := _) rfl (fun K hK => ?_) ?_
        ·
         skip
         refine step_append_some _ (by rfl) _ _ 31 (by rfl) w.heap.size 3 i0 (.int .i64 0) 1 8 Tryz.underlying31 hi hz0 hz1 hz2 rfl (by omega) (.slice (some ⟨ga4, 0, none⟩) (n) cap4) (n) (us.map (Value.int .i64)) (by rfl) (unhide Ofu4) (by simp) ⟨u2.heap.size, 0, none⟩ (1) (1) ([.int .i64 u]) (by rfl) rfl (unhide Kuu4).news (by simp [Value.oneCell']) (by unfold maxLen; omega) (by omega) (unhide Bu4).size ?_
         intro ga5 cap5 u5 ho hg hat hlt
         rw [show us.map (Value.int .i64) ++ [.int .i64 u] = (us ++ [u]).map (Value.int .i64) from by simp] at ho
         have Bu5 : Hid (Below w.heap.size w u5) := (unhide Bu4).grown hg (unhide Bu4).size (fun b hb => by have := own_base (unhide Ofu4); simp [Value.ownBlock] at hb; omega)
         have Kau5 := hide (Blk.gb (unhide Kau4) hg Zau4 Nqaf)
         have Zau5 := Nat.lt_of_lt_of_le Zau4 hg.size
         have Ktu5 := hide (Blk.gb (unhide Ktu4) hg Ztu4 Nqtf)
         have Ztu5 := Nat.lt_of_lt_of_le Ztu4 hg.size
         have Klu5 := hide (Blk.gb (unhide Klu4) hg Zlu4 Nqlf)
         have Zlu5 := Nat.lt_of_lt_of_le Zlu4 hg.size
         have Kuu5 := hide (Blk.gb (unhide Kuu4) hg Zuu4 Nquf)
         have Zuu5 := Nat.lt_of_lt_of_le Zuu4 hg.size
         have Oku5 : Hid (u5.ownsRow w.heap.size 3 1 (.slice (some ⟨ga5, 0, none⟩) (n + 1) cap5) (n + 1) ((us ++ [u]).map (Value.int .i64))) := ho
         clear ho hg hat hlt hHeld
         clear Bu4 Kau4 Zau4 Ktu4 Ztu4 Klu4 Zlu4 Kuu4 Zuu4 Ofu4
         have hHeld := hSmk u5 (unhide Kau5)
         refine hK.out _ _ (fun _ => hHeld) ?_
         clear hK K
         try simp only [Act.put, getElem_toArray, getElem_cons_zero, getElem_cons_succ, setIfInBounds_toArray, set_cons_zero, set_cons_succ]
         refine wpTo_ready (rs := [8]) (by kernel_rfl) (by simp) ?_
         refine AllTo.cons (o := _) rfl (fun K hK => ?_) ?_
         ·
          (try simp only [getElem_toArray, getElem_cons_zero, getElem_cons_succ])
          go_simp
          refine (l7Of_any r h aa na ca (some ⟨ga5, 0, none⟩) (n + 1) cap5 (us ++ [u]) u5 ((unhide HR).mono (unhide Bu5)) ((unhide HA).mono (unhide Bu5)) (Rd.of_owns (unhide Oku5)) (by omega)).mono ?_
          rintro e u6 ⟨rfl, hb⟩
          have Bu6 := hide ((unhide Bu5).trans (hb.mono (unhide Bu5).size))
          have Kau6 := hide (Blk.below hb Zau5 (unhide Kau5))
          have Zau6 := Nat.lt_of_lt_of_le Zau5 hb.size
          have Ktu6 := hide (Blk.below hb Ztu5 (unhide Ktu5))
          have Ztu6 := Nat.lt_of_lt_of_le Ztu5 hb.size
          have Klu6 := hide (Blk.below hb Zlu5 (unhide Klu5))
          have Zlu6 := Nat.lt_of_lt_of_le Zlu5 hb.size
          have Kuu6 := hide (Blk.below hb Zuu5 (unhide Kuu5))
          have Zuu6 := Nat.lt_of_lt_of_le Zuu5 hb.size
          have Oku6 := hide (own_later (unhide Oku5) hb)
          clear hb
          clear Bu5 Kau5 Zau5 Ktu5 Ztu5 Klu5 Zlu5 Kuu5 Zuu5 Oku5
          clear hHeld
          go_wp2_with fail
          have hHeld := hSmk u6 (unhide Kau6)
          refine hK.out _ _ (fun _ => hHeld) ?_
          clear hK K
          try simp only [Act.put, getElem_toArray, getElem_cons_zero, getElem_cons_succ, setIfInBounds_toArray, set_cons_zero, set_cons_succ]
          refine wpTo_ready (rs := [10]) (by kernel_rfl) (by simp) ?_
          refine AllTo.cons (o := _) rfl (fun K hK => ?_) ?_
          ·
           (try simp only [getElem_toArray, getElem_cons_zero, getElem_cons_succ])
           clear Kuu6 Zuu6
           clear Oku6
           clear Kau6 Zau6
           have p0 := ((unhide Klu6) 0 (by simp)).1
           have q0 := ((unhide Klu6) 0 (by simp)).2
           have p1 := ((unhide Klu6) 1 (by simp)).1
           have q1 := ((unhide Klu6) 1 (by simp)).2
           go_simp
           clear p0 q0 p1 q1
           have Bu7 : Hid (Below w.heap.size w ((u6.setCell ⟨u1.heap.size, 0, none⟩ (.int .i64 (volOf (itemsR r) (us ++ [u])))).setCell ⟨u1.heap.size, 1, none⟩ (.int .i64 (gramOf (itemsR r) (us ++ [u]))))) := (((unhide Bu6).setCell Gl _).setCell Gl _)
           have Klu7 : Hid (Blk ((u6.setCell ⟨u1.heap.size, 0, none⟩ (.int .i64 (volOf (itemsR r) (us ++ [u])))).setCell ⟨u1.heap.size, 1, none⟩ (.int .i64 (gramOf (itemsR r) (us ++ [u])))) u1.heap.size [.int .i64 (volOf (itemsR r) (us ++ [u])), .int .i64 (gramOf (itemsR r) (us ++ [u]))]) := Blk.fill2 (unhide Klu6)
           have Zlu7 : u1.heap.size < ((u6.setCell ⟨u1.heap.size, 0, none⟩ (.int .i64 (volOf (itemsR r) (us ++ [u])))).setCell ⟨u1.heap.size, 1, none⟩ (.int .i64 (gramOf (itemsR r) (us ++ [u])))).heap.size := by simpa using Zlu6
           have Ktu7 : Hid (Blk ((u6.setCell ⟨u1.heap.size, 0, none⟩ (.int .i64 (volOf (itemsR r) (us ++ [u])))).setCell ⟨u1.heap.size, 1, none⟩ (.int .i64 (gramOf (itemsR r) (us ++ [u])))) (w.heap.size + 1) [.int .i64 t.id, .int .i64 t.wd, .int .i64 t.ht, .int .i64 t.dp, .int .i64 t.tare, .int .i64 t.gram, .int .i64 t.cost]) := (((unhide Ktu6).other Nqtl).other Nqtl)
           have Ztu7 : (w.heap.size + 1) < ((u6.setCell ⟨u1.heap.size, 0, none⟩ (.int .i64 (volOf (itemsR r) (us ++ [u])))).setCell ⟨u1.heap.size, 1, none⟩ (.int .i64 (gramOf (itemsR r) (us ++ [u])))).heap.size := by simpa using Ztu6
           clear hHeld
           clear Bu6 Ktu6 Ztu6 Klu6 Zlu6
           generalize ((u6.setCell ⟨u1.heap.size, 0, none⟩ (.int .i64 (volOf (itemsR r) (us ++ [u])))).setCell ⟨u1.heap.size, 1, none⟩ (.int .i64 (gramOf (itemsR r) (us ++ [u])))) = u7 at *
           refine hK.out _ _ (fun hn => absurd (by decide) hn) ?_
           clear hK K
           try simp only [Act.put, getElem_toArray, getElem_cons_zero, getElem_cons_succ, setIfInBounds_toArray, set_cons_zero, set_cons_succ]
           refine wpTo_done (by kernel_rfl) ?_ _
           refine NoPanic.normal ?_
           go_wp2_with fail
           go_meet
           case rel => exact ⟨_, rfl, unhide Klu7, unhide Ktu7, unhide Bu7⟩
          exact AllTo.nil
         exact AllTo.nil
        exact AllTo.nil
       exact AllTo.nil
      exact AllTo.nil
     exact AllTo.nil
    refine AllTo.cons (o := _) rfl (fun K hK => ?_) ?_
    ·
     (try simp only [getElem_toArray, getElem_cons_zero, getElem_cons_succ])
     have Bu1 := hide ((unhide Bu0).alloc (unhide Bu0).size (.cells #[.int .i64 u] 3))
     have Kuu1 : Hid (Blk (u0.alloc (.cells #[.int .i64 u] 3)) u0.heap.size [.int .i64 u]) := Blk.allocAt [.int .i64 u] rfl
     have Zuu1 := lt_alloc_new u0 (.cells #[.int .i64 u] 3)
     have Gu : w.heap.size ≤ u0.heap.size := (unhide Bu0).size
     have Kau1 := hide ((unhide Kau0).allocOld Zau0 (.cells #[.int .i64 u] 3))
     have Zau1 := lt_alloc Zau0 (.cells #[.int .i64 u] 3)
     have Ktu1 := hide ((unhide Ktu0).allocOld Ztu0 (.cells #[.int .i64 u] 3))
     have Ztu1 := lt_alloc Ztu0 (.cells #[.int .i64 u] 3)
     go_simp
     clear hHeld
     clear Bu0 Kau0 Zau0 Ktu0 Ztu0
     generalize (u0.alloc (.cells #[.int .i64 u] 3)) = u1 at *
     have hHeld := hSmk u1 (unhide Kau1)
     refine hK.out _ _ (fun _ => hHeld) ?_
     clear hK K
     try simp only [Act.put, getElem_toArray, getElem_cons_zero, getElem_cons_succ, setIfInBounds_toArray, set_cons_zero, set_cons_succ]
     refine wpTo_ready (rs := [2, 9]) (by kernel_rfl) (by simp) ?_
     refine AllTo.cons (o := _) rfl (fun K hK => ?_) ?_
     ·
      (try simp only [getElem_toArray, getElem_cons_zero, getElem_cons_succ])
      have Bu2 : Hid (Below w.heap.size w (u1.alloc (.cells #[] 3))) := (unhide Bu1).alloc (unhide Bu1).size _
      have Kau2 := hide ((unhide Kau1).allocOld Zau1 (.cells #[] 3))
      have Zau2 := lt_alloc Zau1 (.cells #[] 3)
      have Nqae : w.heap.size ≠ u1.heap.size := Nat.ne_of_lt Zau1
      have Ktu2 := hide ((unhide Ktu1).allocOld Ztu1 (.cells #[] 3))
      have Ztu2 := lt_alloc Ztu1 (.cells #[] 3)
      have Nqte : (w.heap.size + 1) ≠ u1.heap.size := Nat.ne_of_lt Ztu1
      have Kuu2 := hide ((unhide Kuu1).allocOld Zuu1 (.cells #[] 3))
      have Zuu2 := lt_alloc Zuu1 (.cells #[] 3)
      have Nque : u0.heap.size ≠ u1.heap.size := Nat.ne_of_lt Zuu1
      have Oeu2 : Hid ((u1.alloc (.cells #[] 3)).ownsRow w.heap.size 3 1 (.slice (some ⟨u1.heap.size, 0, none⟩) (0) 0) (0) ([])) := own_lit0 u1 (unhide Bu1).size
      go_simp
      clear hHeld
      clear Bu1 Kau1 Zau1 Ktu1 Ztu1 Kuu1 Zuu1
      generalize (u1.alloc (.cells #[] 3)) = u2 at *
      have hHeld := hSmk u2 (unhide Kau2)
      refine hK.out _ _ (fun _ => hHeld) ?_
      clear hK K
      try simp only [Act.put, getElem_toArray, getElem_cons_zero, getElem_cons_succ, setIfInBounds_toArray, set_cons_zero, set_cons_succ]
      refine wpTo_ready (rs := [4, 9]) (by kernel_rfl) (by simp) ?_
      refine AllTo.cons (o := _) rfl (fun K hK => ?_) ?_
      ·
       skip
       refine step_append_some _ (by rfl) _ _ 31 (by rfl) w.heap.size 3 i0 (.int .i64 0) 1 8 Tryz.underlying31 hi hz0 hz1 hz2 rfl (by omega) (.slice (some ⟨u1.heap.size, 0, none⟩) (0) 0) (0) ([]) (by rfl) (unhide Oeu2) (by simp) ⟨b, off, none⟩ (n) (c) (us.map (Value.int .i64)) (by rfl) (unhide HU).news_len ((unhide HU).mono (unhide Bu2)).news (news_one us) (by unfold maxLen; omega) (by omega) (unhide Bu2).size ?_
       intro ga3 cap3 u3 ho hg hat hlt
       rw [Nat.zero_add] at ho ⊢
       rw [List.nil_append] at ho
       have Bu3 : Hid (Below w.heap.size w u3) := (unhide Bu2).grown hg (unhide Bu2).size (fun b hb => by have := own_base (unhide Oeu2); simp [Value.ownBlock] at hb; omega)
       have Kau3 := hide (Blk.gb (unhide Kau2) hg Zau2 Nqae)
       have Zau3 := Nat.lt_of_lt_of_le Zau2 hg.size
       have Nqaf := ne_new hat Nqae Zau2
       have Ktu3 := hide (Blk.gb (unhide Ktu2) hg Ztu2 Nqte)
       have Ztu3 := Nat.lt_of_lt_of_le Ztu2 hg.size
       have Nqtf := ne_new hat Nqte Ztu2
       have Kuu3 := hide (Blk.gb (unhide Kuu2) hg Zuu2 Nque)
       have Zuu3 := Nat.lt_of_lt_of_le Zuu2 hg.size
       have Nquf := ne_new hat Nque Zuu2
       have Ofu3 : Hid (u3.ownsRow w.heap.size 3 1 (.slice (some ⟨ga3, 0, none⟩) (n) cap3) (n) (us.map (Value.int .i64))) := ho
       clear ho hg hat hlt hHeld
       clear Bu2 Kau2 Zau2 Ktu2 Ztu2 Kuu2 Zuu2 Oeu2
       have hHeld := hSmk u3 (unhide Kau3)
       refine hK.out _ _ (fun _ => hHeld) ?_
       clear hK K
       try simp only [Act.put, getElem_toArray, getElem_cons_zero, getElem_cons_succ, setIfInBounds_toArray, set_cons_zero, set_cons_succ]
       refine wpTo_ready (rs := [7, 9]) (by kernel_rfl) (by simp) ?_
       refine AllTo.cons (o := _) rfl (fun K hK => ?_) ?_
       ·
        skip
        refine step_append_some _ (by rfl) _ _ 31 (by rfl) w.heap.size 3 i0 (.int .i64 0) 1 8 Tryz.underlying31 hi hz0 hz1 hz2 rfl (by omega) (.slice (some ⟨ga3, 0, none⟩) (n) cap3) (n) (us.map (Value.int .i64)) (by rfl) (unhide Ofu3) (by simp) ⟨u0.heap.size, 0, none⟩ (1) (1) ([.int .i64 u]) (by rfl) rfl (unhide Kuu3).news (by simp [Value.oneCell']) (by unfold maxLen; omega) (by omega) (unhide Bu3).size ?_
        intro ga4 cap4 u4 ho hg hat hlt
        rw [show us.map (Value.int .i64) ++ [.int .i64 u] = (us ++ [u]).map (Value.int .i64) from by simp] at ho
        have Bu4 : Hid (Below w.heap.size w u4) := (unhide Bu3).grown hg (unhide Bu3).size (fun b hb => by have := own_base (unhide Ofu3); simp [Value.ownBlock] at hb; omega)
        have Kau4 := hide (Blk.gb (unhide Kau3) hg Zau3 Nqaf)
        have Zau4 := Nat.lt_of_lt_of_le Zau3 hg.size
        have Ktu4 := hide (Blk.gb (unhide Ktu3) hg Ztu3 Nqtf)
        have Ztu4 := Nat.lt_of_lt_of_le Ztu3 hg.size
        have Kuu4 := hide (Blk.gb (unhide Kuu3) hg Zuu3 Nquf)
        have Zuu4 := Nat.lt_of_lt_of_le Zuu3 hg.size
        have Oku4 : Hid (u4.ownsRow w.heap.size 3 1 (.slice (some ⟨ga4, 0, none⟩) (n + 1) cap4) (n + 1) ((us ++ [u]).map (Value.int .i64))) := ho
        clear ho hg hat hlt hHeld
        clear Bu3 Kau3 Zau3 Ktu3 Ztu3 Kuu3 Zuu3 Ofu3
        have hHeld := hSmk u4 (unhide Kau4)
        refine hK.out _ _ (fun _ => hHeld) ?_
        clear hK K
        try simp only [Act.put, getElem_toArray, getElem_cons_zero, getElem_cons_succ, setIfInBounds_toArray, set_cons_zero, set_cons_succ]
        refine wpTo_ready (rs := [8, 9]) (by kernel_rfl) (by simp) ?_
        refine AllTo.cons (o := _) rfl (fun K hK => ?_) ?_
        ·
         (try simp only [getElem_toArray, getElem_cons_zero, getElem_cons_succ])
         go_simp
         refine (l7Of_any r h aa na ca (some ⟨ga4, 0, none⟩) (n + 1) cap4 (us ++ [u]) u4 ((unhide HR).mono (unhide Bu4)) ((unhide HA).mono (unhide Bu4)) (Rd.of_owns (unhide Oku4)) (by omega)).mono ?_
         rintro e u5 ⟨rfl, hb⟩
         have Bu5 := hide ((unhide Bu4).trans (hb.mono (unhide Bu4).size))
         have Kau5 := hide (Blk.below hb Zau4 (unhide Kau4))
         have Zau5 := Nat.lt_of_lt_of_le Zau4 hb.size
         have Ktu5 := hide (Blk.below hb Ztu4 (unhide Ktu4))
         have Ztu5 := Nat.lt_of_lt_of_le Ztu4 hb.size
         have Kuu5 := hide (Blk.below hb Zuu4 (unhide Kuu4))
         have Zuu5 := Nat.lt_of_lt_of_le Zuu4 hb.size
         have Oku5 := hide (own_later (unhide Oku4) hb)
         clear hb
         clear Bu4 Kau4 Zau4 Ktu4 Ztu4 Kuu4 Zuu4 Oku4
         clear hHeld
         go_wp2_with fail
         have hHeld := hSmk u5 (unhide Kau5)
         refine hK.out _ _ (fun _ => hHeld) ?_
         clear hK K
         try simp only [Act.put, getElem_toArray, getElem_cons_zero, getElem_cons_succ, setIfInBounds_toArray, set_cons_zero, set_cons_succ]
         refine wpTo_ready (rs := [9]) (by kernel_rfl) (by simp) ?_
         refine AllTo.cons (o := _) rfl (fun K hK => ?_) ?_
         ·
          (try simp only [getElem_toArray, getElem_cons_zero, getElem_cons_succ])
          have Bu6 := hide ((unhide Bu5).alloc (unhide Bu5).size (.cells #[.int .i64 0, .int .i64 0] 85))
          have Klu6 : Hid (Blk (u5.alloc (.cells #[.int .i64 0, .int .i64 0] 85)) u5.heap.size [.int .i64 0, .int .i64 0]) := Blk.allocAt [.int .i64 0, .int .i64 0] rfl
          have Zlu6 := lt_alloc_new u5 (.cells #[.int .i64 0, .int .i64 0] 85)
          have Gl : w.heap.size ≤ u5.heap.size := (unhide Bu5).size
          have Kau6 := hide ((unhide Kau5).allocOld Zau5 (.cells #[.int .i64 0, .int .i64 0] 85))
          have Zau6 := lt_alloc Zau5 (.cells #[.int .i64 0, .int .i64 0] 85)
          have Ktu6 := hide ((unhide Ktu5).allocOld Ztu5 (.cells #[.int .i64 0, .int .i64 0] 85))
          have Ztu6 := lt_alloc Ztu5 (.cells #[.int .i64 0, .int .i64 0] 85)
          have Nqtl : (w.heap.size + 1) ≠ u5.heap.size := Nat.ne_of_lt Ztu5
          have Kuu6 := hide ((unhide Kuu5).allocOld Zuu5 (.cells #[.int .i64 0, .int .i64 0] 85))
          have Zuu6 := lt_alloc Zuu5 (.cells #[.int .i64 0, .int .i64 0] 85)
          have Nqul : u0.heap.size ≠ u5.heap.size := Nat.ne_of_lt Zuu5
          have Nqlu := Ne.symm Nqul
          have Oku6 := hide ((unhide Oku5).alloc (.cells #[.int .i64 0, .int .i64 0] 85))
          go_simp
          clear hHeld
          clear Bu5 Kau5 Zau5 Ktu5 Ztu5 Kuu5 Zuu5 Oku5
          generalize (u5.alloc (.cells #[.int .i64 0, .int .i64 0] 85)) = u6 at *
          have hHeld := hSmk u6 (unhide Kau6)
          refine hK.out _ _ (fun _ => hHeld) ?_
          clear hK K
          try simp only [Act.put, getElem_toArray, getElem_cons_zero, getElem_cons_succ, setIfInBounds_toArray, set_cons_zero, set_cons_succ]
          refine wpTo_ready (rs := [10]) (by kernel_rfl) (by simp) ?_
          refine AllTo.cons (o := _) rfl (fun K hK => ?_) ?_
          ·
           (try simp only [getElem_toArray, getElem_cons_zero, getElem_cons_succ])
           clear Kuu6 Zuu6
           clear Oku6
           clear Kau6 Zau6
           have p0 := ((unhide Klu6) 0 (by simp)).1
           have q0 := ((unhide Klu6) 0 (by simp)).2
           have p1 := ((unhide Klu6) 1 (by simp)).1
           have q1 := ((unhide Klu6) 1 (by simp)).2
           go_simp
           clear p0 q0 p1 q1
           have Bu7 : Hid (Below w.heap.size w ((u6.setCell ⟨u5.heap.size, 0, none⟩ (.int .i64 (volOf (itemsR r) (us ++ [u])))).setCell ⟨u5.heap.size, 1, none⟩ (.int .i64 (gramOf (itemsR r) (us ++ [u]))))) := (((unhide Bu6).setCell Gl _).setCell Gl _)
           have Klu7 : Hid (Blk ((u6.setCell ⟨u5.heap.size, 0, none⟩ (.int .i64 (volOf (itemsR r) (us ++ [u])))).setCell ⟨u5.heap.size, 1, none⟩ (.int .i64 (gramOf (itemsR r) (us ++ [u])))) u5.heap.size [.int .i64 (volOf (itemsR r) (us ++ [u])), .int .i64 (gramOf (itemsR r) (us ++ [u]))]) := Blk.fill2 (unhide Klu6)
           have Zlu7 : u5.heap.size < ((u6.setCell ⟨u5.heap.size, 0, none⟩ (.int .i64 (volOf (itemsR r) (us ++ [u])))).setCell ⟨u5.heap.size, 1, none⟩ (.int .i64 (gramOf (itemsR r) (us ++ [u])))).heap.size := by simpa using Zlu6
           have Ktu7 : Hid (Blk ((u6.setCell ⟨u5.heap.size, 0, none⟩ (.int .i64 (volOf (itemsR r) (us ++ [u])))).setCell ⟨u5.heap.size, 1, none⟩ (.int .i64 (gramOf (itemsR r) (us ++ [u])))) (w.heap.size + 1) [.int .i64 t.id, .int .i64 t.wd, .int .i64 t.ht, .int .i64 t.dp, .int .i64 t.tare, .int .i64 t.gram, .int .i64 t.cost]) := (((unhide Ktu6).other Nqtl).other Nqtl)
           have Ztu7 : (w.heap.size + 1) < ((u6.setCell ⟨u5.heap.size, 0, none⟩ (.int .i64 (volOf (itemsR r) (us ++ [u])))).setCell ⟨u5.heap.size, 1, none⟩ (.int .i64 (gramOf (itemsR r) (us ++ [u])))).heap.size := by simpa using Ztu6
           clear hHeld
           clear Bu6 Ktu6 Ztu6 Klu6 Zlu6
           generalize ((u6.setCell ⟨u5.heap.size, 0, none⟩ (.int .i64 (volOf (itemsR r) (us ++ [u])))).setCell ⟨u5.heap.size, 1, none⟩ (.int .i64 (gramOf (itemsR r) (us ++ [u])))) = u7 at *
           refine hK.out _ _ (fun hn => absurd (by decide) hn) ?_
           clear hK K
           try simp only [Act.put, getElem_toArray, getElem_cons_zero, getElem_cons_succ, setIfInBounds_toArray, set_cons_zero, set_cons_succ]
           refine wpTo_done (by kernel_rfl) ?_ _
           refine NoPanic.normal ?_
           go_wp2_with fail
           go_meet
           case rel => exact ⟨_, rfl, unhide Klu7, unhide Ktu7, unhide Bu7⟩
          exact AllTo.nil
         exact AllTo.nil
        refine AllTo.cons (o := _) rfl (fun K hK => ?_) ?_
        ·
         (try simp only [getElem_toArray, getElem_cons_zero, getElem_cons_succ])
         have Bu5 := hide ((unhide Bu4).alloc (unhide Bu4).size (.cells #[.int .i64 0, .int .i64 0] 85))
         have Klu5 : Hid (Blk (u4.alloc (.cells #[.int .i64 0, .int .i64 0] 85)) u4.heap.size [.int .i64 0, .int .i64 0]) := Blk.allocAt [.int .i64 0, .int .i64 0] rfl
         have Zlu5 := lt_alloc_new u4 (.cells #[.int .i64 0, .int .i64 0] 85)
         have Gl : w.heap.size ≤ u4.heap.size := (unhide Bu4).size
         have Kau5 := hide ((unhide Kau4).allocOld Zau4 (.cells #[.int .i64 0, .int .i64 0] 85))
         have Zau5 := lt_alloc Zau4 (.cells #[.int .i64 0, .int .i64 0] 85)
         have Ktu5 := hide ((unhide Ktu4).allocOld Ztu4 (.cells #[.int .i64 0, .int .i64 0] 85))
         have Ztu5 := lt_alloc Ztu4 (.cells #[.int .i64 0, .int .i64 0] 85)
         have Nqtl : (w.heap.size + 1) ≠ u4.heap.size := Nat.ne_of_lt Ztu4
         have Kuu5 := hide ((unhide Kuu4).allocOld Zuu4 (.cells #[.int .i64 0, .int .i64 0] 85))
         have Zuu5 := lt_alloc Zuu4 (.cells #[.int .i64 0, .int .i64 0] 85)
         have Nqul : u0.heap.size ≠ u4.heap.size := Nat.ne_of_lt Zuu4
         have Nqlu := Ne.symm Nqul
         have Oku5 := hide ((unhide Oku4).alloc (.cells #[.int .i64 0, .int .i64 0] 85))
         go_simp
         clear hHeld
         clear Bu4 Kau4 Zau4 Ktu4 Ztu4 Kuu4 Zuu4 Oku4
         generalize (u4.alloc (.cells #[.int .i64 0, .int .i64 0] 85)) = u5 at *
         have hHeld := hSmk u5 (unhide Kau5)
         refine hK.out _ _ (fun _ => hHeld) ?_
         clear hK K
         try simp only [Act.put, getElem_toArray, getElem_cons_zero, getElem_cons_succ, setIfInBounds_toArray, set_cons_zero, set_cons_succ]
         refine wpTo_ready (rs := [8]) (by kernel_rfl) (by simp) ?_
         refine AllTo.cons (o := _) rfl (fun K hK => ?_) ?_
         ·
          (try simp only [getElem_toArray, getElem_cons_zero, getElem_cons_succ])
          go_simp
          refine (l7Of_any r h aa na ca (some ⟨ga4, 0, none⟩) (n + 1) cap4 (us ++ [u]) u5 ((unhide HR).mono (unhide Bu5)) ((unhide HA).mono (unhide Bu5)) (Rd.of_owns (unhide Oku5)) (by omega)).mono ?_
          rintro e u6 ⟨rfl, hb⟩
          have Bu6 := hide ((unhide Bu5).trans (hb.mono (unhide Bu5).size))
          have Kau6 := hide (Blk.below hb Zau5 (unhide Kau5))
          have Zau6 := Nat.lt_of_lt_of_le Zau5 hb.size
          have Ktu6 := hide (Blk.below hb Ztu5 (unhide Ktu5))
          have Ztu6 := Nat.lt_of_lt_of_le Ztu5 hb.size
          have Kuu6 := hide (Blk.below hb Zuu5 (unhide Kuu5))
          have Zuu6 := Nat.lt_of_lt_of_le Zuu5 hb.size
          have Klu6 := hide (Blk.below hb Zlu5 (unhide Klu5))
          have Zlu6 := Nat.lt_of_lt_of_le Zlu5 hb.size
          have Oku6 := hide (own_later (unhide Oku5) hb)
          clear hb
          clear Bu5 Kau5 Zau5 Ktu5 Ztu5 Kuu5 Zuu5 Klu5 Zlu5 Oku5
          clear hHeld
          go_wp2_with fail
          have hHeld := hSmk u6 (unhide Kau6)
          refine hK.out _ _ (fun _ => hHeld) ?_
          clear hK K
          try simp only [Act.put, getElem_toArray, getElem_cons_zero, getElem_cons_succ, setIfInBounds_toArray, set_cons_zero, set_cons_succ]
          refine wpTo_ready (rs := [10]) (by kernel_rfl) (by simp) ?_
          refine AllTo.cons (o := _) rfl (fun K hK => ?_) ?_
          ·
           (try simp only [getElem_toArray, getElem_cons_zero, getElem_cons_succ])
           clear Kuu6 Zuu6
           clear Oku6
           clear Kau6 Zau6
           have p0 := ((unhide Klu6) 0 (by simp)).1
           have q0 := ((unhide Klu6) 0 (by simp)).2
           have p1 := ((unhide Klu6) 1 (by simp)).1
           have q1 := ((unhide Klu6) 1 (by simp)).2
           go_simp
           clear p0 q0 p1 q1
           have Bu7 : Hid (Below w.heap.size w ((u6.setCell ⟨u4.heap.size, 0, none⟩ (.int .i64 (volOf (itemsR r) (us ++ [u])))).setCell ⟨u4.heap.size, 1, none⟩ (.int .i64 (gramOf (itemsR r) (us ++ [u]))))) := (((unhide Bu6).setCell Gl _).setCell Gl _)
           have Klu7 : Hid (Blk ((u6.setCell ⟨u4.heap.size, 0, none⟩ (.int .i64 (volOf (itemsR r) (us ++ [u])))).setCell ⟨u4.heap.size, 1, none⟩ (.int .i64 (gramOf (itemsR r) (us ++ [u])))) u4.heap.size [.int .i64 (volOf (itemsR r) (us ++ [u])), .int .i64 (gramOf (itemsR r) (us ++ [u]))]) := Blk.fill2 (unhide Klu6)
           have Zlu7 : u4.heap.size < ((u6.setCell ⟨u4.heap.size, 0, none⟩ (.int .i64 (volOf (itemsR r) (us ++ [u])))).setCell ⟨u4.heap.size, 1, none⟩ (.int .i64 (gramOf (itemsR r) (us ++ [u])))).heap.size := by simpa using Zlu6
           have Ktu7 : Hid (Blk ((u6.setCell ⟨u4.heap.size, 0, none⟩ (.int .i64 (volOf (itemsR r) (us ++ [u])))).setCell ⟨u4.heap.size, 1, none⟩ (.int .i64 (gramOf (itemsR r) (us ++ [u])))) (w.heap.size + 1) [.int .i64 t.id, .int .i64 t.wd, .int .i64 t.ht, .int .i64 t.dp, .int .i64 t.tare, .int .i64 t.gram, .int .i64 t.cost]) := (((unhide Ktu6).other Nqtl).other Nqtl)
           have Ztu7 : (w.heap.size + 1) < ((u6.setCell ⟨u4.heap.size, 0, none⟩ (.int .i64 (volOf (itemsR r) (us ++ [u])))).setCell ⟨u4.heap.size, 1, none⟩ (.int .i64 (gramOf (itemsR r) (us ++ [u])))).heap.size := by simpa using Ztu6
           clear hHeld
           clear Bu6 Ktu6 Ztu6 Klu6 Zlu6
           generalize ((u6.setCell ⟨u4.heap.size, 0, none⟩ (.int .i64 (volOf (itemsR r) (us ++ [u])))).setCell ⟨u4.heap.size, 1, none⟩ (.int .i64 (gramOf (itemsR r) (us ++ [u])))) = u7 at *
           refine hK.out _ _ (fun hn => absurd (by decide) hn) ?_
           clear hK K
           try simp only [Act.put, getElem_toArray, getElem_cons_zero, getElem_cons_succ, setIfInBounds_toArray, set_cons_zero, set_cons_succ]
           refine wpTo_done (by kernel_rfl) ?_ _
           refine NoPanic.normal ?_
           go_wp2_with fail
           go_meet
           case rel => exact ⟨_, rfl, unhide Klu7, unhide Ktu7, unhide Bu7⟩
          exact AllTo.nil
         exact AllTo.nil
        exact AllTo.nil
       refine AllTo.cons (o := _) rfl (fun K hK => ?_) ?_
       ·
        (try simp only [getElem_toArray, getElem_cons_zero, getElem_cons_succ])
        have Bu4 := hide ((unhide Bu3).alloc (unhide Bu3).size (.cells #[.int .i64 0, .int .i64 0] 85))
        have Klu4 : Hid (Blk (u3.alloc (.cells #[.int .i64 0, .int .i64 0] 85)) u3.heap.size [.int .i64 0, .int .i64 0]) := Blk.allocAt [.int .i64 0, .int .i64 0] rfl
        have Zlu4 := lt_alloc_new u3 (.cells #[.int .i64 0, .int .i64 0] 85)
        have Gl : w.heap.size ≤ u3.heap.size := (unhide Bu3).size
        have Kau4 := hide ((unhide Kau3).allocOld Zau3 (.cells #[.int .i64 0, .int .i64 0] 85))
        have Zau4 := lt_alloc Zau3 (.cells #[.int .i64 0, .int .i64 0] 85)
        have Ktu4 := hide ((unhide Ktu3).allocOld Ztu3 (.cells #[.int .i64 0, .int .i64 0] 85))
        have Ztu4 := lt_alloc Ztu3 (.cells #[.int .i64 0, .int .i64 0] 85)
        have Nqtl : (w.heap.size + 1) ≠ u3.heap.size := Nat.ne_of_lt Ztu3
        have Kuu4 := hide ((unhide Kuu3).allocOld Zuu3 (.cells #[.int .i64 0, .int .i64 0] 85))
        have Zuu4 := lt_alloc Zuu3 (.cells #[.int .i64 0, .int .i64 0] 85)
        have Nqul : u0.heap.size ≠ u3.heap.size := Nat.ne_of_lt Zuu3
        have Nqlu := Ne.symm Nqul
        have Ofu4 := hide ((unhide Ofu3).alloc (.cells #[.int .i64 0, .int .i64 0] 85))
        have Nqlf : u3.heap.size ≠ ga3 := Nat.ne_of_gt ((unhide Ofu3).lt _ rfl).2
        go_simp
        clear hHeld
        clear Bu3 Kau3 Zau3 Ktu3 Ztu3 Kuu3 Zuu3 Ofu3
        generalize (u3.alloc (.cells #[.int .i64 0, .int .i64 0] 85)) = u4 at *
        have hHeld := hSmk u4 (unhide Kau4)
        refine hK.out _ _ (fun _ => hHeld) ?_
        clear hK K
        try simp only [Act.put, getElem_toArray, getElem_cons_zero, getElem_cons_succ, setIfInBounds_toArray, set_cons_zero, set_cons_succ]
        refine wpTo_ready (rs := [7]) (by kernel_rfl) (by simp) ?_
        refine AllTo.cons (o := _) rfl (fun K hK => ?_) ?_
        ·
         skip
         refine step_append_some _ (by rfl) _ _ 31 (by rfl) w.heap.size 3 i0 (.int .i64 0) 1 8 Tryz.underlying31 hi hz0 hz1 hz2 rfl (by omega) (.slice (some ⟨ga3, 0, none⟩) (n) cap3) (n) (us.map (Value.int .i64)) (by rfl) (unhide Ofu4) (by simp) ⟨u0.heap.size, 0, none⟩ (1) (1) ([.int .i64 u]) (by rfl) rfl (unhide Kuu4).news (by simp [Value.oneCell']) (by unfold maxLen; omega) (by omega) (unhide Bu4).size ?_
         intro ga5 cap5 u5 ho hg hat hlt
         rw [show us.map (Value.int .i64) ++ [.int .i64 u] = (us ++ [u]).map (Value.int .i64) from by simp] at ho
         have Bu5 : Hid (Below w.heap.size w u5) := (unhide Bu4).grown hg (unhide Bu4).size (fun b hb => by have := own_base (unhide Ofu4); simp [Value.ownBlock] at hb; omega)
         have Kau5 := hide (Blk.gb (unhide Kau4) hg Zau4 Nqaf)
         have Zau5 := Nat.lt_of_lt_of_le Zau4 hg.size
         have Ktu5 := hide (Blk.gb (unhide Ktu4) hg Ztu4 Nqtf)
         have Ztu5 := Nat.lt_of_lt_of_le Ztu4 hg.size
         have Kuu5 := hide (Blk.gb (unhide Kuu4) hg Zuu4 Nquf)
         have Zuu5 := Nat.lt_of_lt_of_le Zuu4 hg.size
         have Klu5 := hide (Blk.gb (unhide Klu4) hg Zlu4 Nqlf)
         have Zlu5 := Nat.lt_of_lt_of_le Zlu4 hg.size
         have Oku5 : Hid (u5.ownsRow w.heap.size 3 1 (.slice (some ⟨ga5, 0, none⟩) (n + 1) cap5) (n + 1) ((us ++ [u]).map (Value.int .i64))) := ho
         clear ho hg hat hlt hHeld
         clear Bu4 Kau4 Zau4 Ktu4 Ztu4 Kuu4 Zuu4 Klu4 Zlu4 Ofu4
         have hHeld := hSmk u5 (unhide Kau5)
         refine hK.out _ _ (fun _ => hHeld) ?_
         clear hK K
         try simp only [Act.put, getElem_toArray, getElem_cons_zero, getElem_cons_succ, setIfInBounds_toArray, set_cons_zero, set_cons_succ]
         refine wpTo_ready (rs := [8]) (by kernel_rfl) (by simp) ?_
         refine AllTo.cons (o := _) rfl (fun K hK => ?_) ?_
         ·
          (try simp only [getElem_toArray, getElem_cons_zero, getElem_cons_succ])
          go_simp
          refine (l7Of_any r h aa na ca (some ⟨ga5, 0, none⟩) (n + 1) cap5 (us ++ [u]) u5 ((unhide HR).mono (unhide Bu5)) ((unhide HA).mono (unhide Bu5)) (Rd.of_owns (unhide Oku5)) (by omega)).mono ?_
          rintro e u6 ⟨rfl, hb⟩
          have Bu6 := hide ((unhide Bu5).trans (hb.mono (unhide Bu5).size))
          have Kau6 := hide (Blk.below hb Zau5 (unhide Kau5))
          have Zau6 := Nat.lt_of_lt_of_le Zau5 hb.size
          have Ktu6 := hide (Blk.below hb Ztu5 (unhide Ktu5))
          have Ztu6 := Nat.lt_of_lt_of_le Ztu5 hb.size
          have Kuu6 := hide (Blk.below hb Zuu5 (unhide Kuu5))
          have Zuu6 := Nat.lt_of_lt_of_le Zuu5 hb.size
          have Klu6 := hide (Blk.below hb Zlu5 (unhide Klu5))
          have Zlu6 := Nat.lt_of_lt_of_le Zlu5 hb.size
          have Oku6 := hide (own_later (unhide Oku5) hb)
          clear hb
          clear Bu5 Kau5 Zau5 Ktu5 Ztu5 Kuu5 Zuu5 Klu5 Zlu5 Oku5
          clear hHeld
          go_wp2_with fail
          have hHeld := hSmk u6 (unhide Kau6)
          refine hK.out _ _ (fun _ => hHeld) ?_
          clear hK K
          try simp only [Act.put, getElem_toArray, getElem_cons_zero, getElem_cons_succ, setIfInBounds_toArray, set_cons_zero, set_cons_succ]
          refine wpTo_ready (rs := [10]) (by kernel_rfl) (by simp) ?_
          refine AllTo.cons (o := _) rfl (fun K hK => ?_) ?_
          ·
           (try simp only [getElem_toArray, getElem_cons_zero, getElem_cons_succ])
           clear Kuu6 Zuu6
           clear Oku6
           clear Kau6 Zau6
           have p0 := ((unhide Klu6) 0 (by simp)).1
           have q0 := ((unhide Klu6) 0 (by simp)).2
           have p1 := ((unhide Klu6) 1 (by simp)).1
           have q1 := ((unhide Klu6) 1 (by simp)).2
           go_simp
           clear p0 q0 p1 q1
           have Bu7 : Hid (Below w.heap.size w ((u6.setCell ⟨u3.heap.size, 0, none⟩ (.int .i64 (volOf (itemsR r) (us ++ [u])))).setCell ⟨u3.heap.size, 1, none⟩ (.int .i64 (gramOf (itemsR r) (us ++ [u]))))) := (((unhide Bu6).setCell Gl _).setCell Gl _)
           have Klu7 : Hid (Blk ((u6.setCell ⟨u3.heap.size, 0, none⟩ (.int .i64 (volOf (itemsR r) (us ++ [u])))).setCell ⟨u3.heap.size, 1, none⟩ (.int .i64 (gramOf (itemsR r) (us ++ [u])))) u3.heap.size [.int .i64 (volOf (itemsR r) (us ++ [u])), .int .i64 (gramOf (itemsR r) (us ++ [u]))]) := Blk.fill2 (unhide Klu6)
           have Zlu7 : u3.heap.size < ((u6.setCell ⟨u3.heap.size, 0, none⟩ (.int .i64 (volOf (itemsR r) (us ++ [u])))).setCell ⟨u3.heap.size, 1, none⟩ (.int .i64 (gramOf (itemsR r) (us ++ [u])))).heap.size := by simpa using Zlu6
           have Ktu7 : Hid (Blk ((u6.setCell ⟨u3.heap.size, 0, none⟩ (.int .i64 (volOf (itemsR r) (us ++ [u])))).setCell ⟨u3.heap.size, 1, none⟩ (.int .i64 (gramOf (itemsR r) (us ++ [u])))) (w.heap.size + 1) [.int .i64 t.id, .int .i64 t.wd, .int .i64 t.ht, .int .i64 t.dp, .int .i64 t.tare, .int .i64 t.gram, .int .i64 t.cost]) := (((unhide Ktu6).other Nqtl).other Nqtl)
           have Ztu7 : (w.heap.size + 1) < ((u6.setCell ⟨u3.heap.size, 0, none⟩ (.int .i64 (volOf (itemsR r) (us ++ [u])))).setCell ⟨u3.heap.size, 1, none⟩ (.int .i64 (gramOf (itemsR r) (us ++ [u])))).heap.size := by simpa using Ztu6
           clear hHeld
           clear Bu6 Ktu6 Ztu6 Klu6 Zlu6
           generalize ((u6.setCell ⟨u3.heap.size, 0, none⟩ (.int .i64 (volOf (itemsR r) (us ++ [u])))).setCell ⟨u3.heap.size, 1, none⟩ (.int .i64 (gramOf (itemsR r) (us ++ [u])))) = u7 at *
           refine hK.out _ _ (fun hn => absurd (by decide) hn) ?_
           clear hK K
           try simp only [Act.put, getElem_toArray, getElem_cons_zero, getElem_cons_succ, setIfInBounds_toArray, set_cons_zero, set_cons_succ]
           refine wpTo_done (by kernel_rfl) ?_ _
           refine NoPanic.normal ?_
           go_wp2_with fail
           go_meet
           case rel => exact ⟨_, rfl, unhide Klu7, unhide Ktu7, unhide Bu7⟩
          exact AllTo.nil
         exact AllTo.nil
        exact AllTo.nil
       exact AllTo.nil
      refine AllTo.cons (o := _) rfl (fun K hK => ?_) ?_
      ·
       (try simp only [getElem_toArray, getElem_cons_zero, getElem_cons_succ])
       have Bu3 := hide ((unhide Bu2).alloc (unhide Bu2).size (.cells #[.int .i64 0, .int .i64 0] 85))
       have Klu3 : Hid (Blk (u2.alloc (.cells #[.int .i64 0, .int .i64 0] 85)) u2.heap.size [.int .i64 0, .int .i64 0]) := Blk.allocAt [.int .i64 0, .int .i64 0] rfl
       have Zlu3 := lt_alloc_new u2 (.cells #[.int .i64 0, .int .i64 0] 85)
       have Gl : w.heap.size ≤ u2.heap.size := (unhide Bu2).size
       have Kau3 := hide ((unhide Kau2).allocOld Zau2 (.cells #[.int .i64 0, .int .i64 0] 85))
       have Zau3 := lt_alloc Zau2 (.cells #[.int .i64 0, .int .i64 0] 85)
       have Ktu3 := hide ((unhide Ktu2).allocOld Ztu2 (.cells #[.int .i64 0, .int .i64 0] 85))
       have Ztu3 := lt_alloc Ztu2 (.cells #[.int .i64 0, .int .i64 0] 85)
       have Nqtl : (w.heap.size + 1) ≠ u2.heap.size := Nat.ne_of_lt Ztu2
       have Kuu3 := hide ((unhide Kuu2).allocOld Zuu2 (.cells #[.int .i64 0, .int .i64 0] 85))
       have Zuu3 := lt_alloc Zuu2 (.cells #[.int .i64 0, .int .i64 0] 85)
       have Nqul : u0.heap.size ≠ u2.heap.size := Nat.ne_of_lt Zuu2
       have Nqlu := Ne.symm Nqul
       have Oeu3 := hide ((unhide Oeu2).alloc (.cells #[.int .i64 0, .int .i64 0] 85))
       have Nqle : u2.heap.size ≠ u1.heap.size := Nat.ne_of_gt ((unhide Oeu2).lt _ rfl).2
       go_simp
       clear hHeld
       clear Bu2 Kau2 Zau2 Ktu2 Ztu2 Kuu2 Zuu2 Oeu2
       generalize (u2.alloc (.cells #[.int .i64 0, .int .i64 0] 85)) = u3 at *
       have hHeld := hSmk u3 (unhide Kau3)
       refine hK.out _ _ (fun _ => hHeld) ?_
       clear hK K
       try simp only [Act.put, getElem_toArray, getElem_cons_zero, getElem_cons_succ, setIfInBounds_toArray, set_cons_zero, set_cons_succ]
       refine wpTo_ready (rs := [4]) (by kernel_rfl) (by simp) ?_
       refine AllTo.cons (o := _) rfl (fun K hK => ?_) ?_
       ·
        skip
        refine step_append_some _ (by rfl) _ _ 31 (by rfl) w.heap.size 3 i0 (.int .i64 0) 1 8 Tryz.underlying31 hi hz0 hz1 hz2 rfl (by omega) (.slice (some ⟨u1.heap.size, 0, none⟩) (0) 0) (0) ([]) (by rfl) (unhide Oeu3) (by simp) ⟨b, off, none⟩ (n) (c) (us.map (Value.int .i64)) (by rfl) (unhide HU).news_len ((unhide HU).mono (unhide Bu3)).news (news_one us) (by unfold maxLen; omega) (by omega) (unhide Bu3).size ?_
        intro ga4 cap4 u4 ho hg hat hlt
        rw [Nat.zero_add] at ho ⊢
        rw [List.nil_append] at ho
        have Bu4 : Hid (Below w.heap.size w u4) := (unhide Bu3).grown hg (unhide Bu3).size (fun b hb => by have := own_base (unhide Oeu3); simp [Value.ownBlock] at hb; omega)
        have Kau4 := hide (Blk.gb (unhide Kau3) hg Zau3 Nqae)
        have Zau4 := Nat.lt_of_lt_of_le Zau3 hg.size
        have Nqaf := ne_new hat Nqae Zau3
        have Ktu4 := hide (Blk.gb (unhide Ktu3) hg Ztu3 Nqte)
        have Ztu4 := Nat.lt_of_lt_of_le Ztu3 hg.size
        have Nqtf := ne_new hat Nqte Ztu3
        have Kuu4 := hide (Blk.gb (unhide Kuu3) hg Zuu3 Nque)
        have Zuu4 := Nat.lt_of_lt_of_le Zuu3 hg.size
        have Nquf := ne_new hat Nque Zuu3
        have Klu4 := hide (Blk.gb (unhide Klu3) hg Zlu3 Nqle)
        have Zlu4 := Nat.lt_of_lt_of_le Zlu3 hg.size
        have Nqlf := ne_new hat Nqle Zlu3
        have Ofu4 : Hid (u4.ownsRow w.heap.size 3 1 (.slice (some ⟨ga4, 0, none⟩) (n) cap4) (n) (us.map (Value.int .i64))) := ho
        clear ho hg hat hlt hHeld
        clear Bu3 Kau3 Zau3 Ktu3 Ztu3 Kuu3 Zuu3 Klu3 Zlu3 Oeu3
        have hHeld := hSmk u4 (unhide Kau4)
        refine hK.out _ _ (fun _ => hHeld) ?_
        clear hK K
        try simp only [Act.put, getElem_toArray, getElem_cons_zero, getElem_cons_succ, setIfInBounds_toArray, set_cons_zero, set_cons_succ]
        refine wpTo_ready (rs := [7]) (by kernel_rfl) (by simp) ?_
        refine AllTo.cons (o := _) rfl (fun K hK => ?_) ?_
        ·
         skip
         refine step_append_some _ (by rfl) _ _ 31 (by rfl) w.heap.size 3 i0 (.int .i64 0) 1 8 Tryz.underlying31 hi hz0 hz1 hz2 rfl (by omega) (.slice (some ⟨ga4, 0, none⟩) (n) cap4) (n) (us.map (Value.int .i64)) (by rfl) (unhide Ofu4) (by simp) ⟨u0.heap.size, 0, none⟩ (1) (1) ([.int .i64 u]) (by rfl) rfl (unhide Kuu4).news (by simp [Value.oneCell']) (by unfold maxLen; omega) (by omega) (unhide Bu4).size ?_
         intro ga5 cap5 u5 ho hg hat hlt
         rw [show us.map (Value.int .i64) ++ [.int .i64 u] = (us ++ [u]).map (Value.int .i64) from by simp] at ho
         have Bu5 : Hid (Below w.heap.size w u5) := (unhide Bu4).grown hg (unhide Bu4).size (fun b hb => by have := own_base (unhide Ofu4); simp [Value.ownBlock] at hb; omega)
         have Kau5 := hide (Blk.gb (unhide Kau4) hg Zau4 Nqaf)
         have Zau5 := Nat.lt_of_lt_of_le Zau4 hg.size
         have Ktu5 := hide (Blk.gb (unhide Ktu4) hg Ztu4 Nqtf)
         have Ztu5 := Nat.lt_of_lt_of_le Ztu4 hg.size
         have Kuu5 := hide (Blk.gb (unhide Kuu4) hg Zuu4 Nquf)
         have Zuu5 := Nat.lt_of_lt_of_le Zuu4 hg.size
         have Klu5 := hide (Blk.gb (unhide Klu4) hg Zlu4 Nqlf)
         have Zlu5 := Nat.lt_of_lt_of_le Zlu4 hg.size
         have Oku5 : Hid (u5.ownsRow w.heap.size 3 1 (.slice (some ⟨ga5, 0, none⟩) (n + 1) cap5) (n + 1) ((us ++ [u]).map (Value.int .i64))) := ho
         clear ho hg hat hlt hHeld
         clear Bu4 Kau4 Zau4 Ktu4 Ztu4 Kuu4 Zuu4 Klu4 Zlu4 Ofu4
         have hHeld := hSmk u5 (unhide Kau5)
         refine hK.out _ _ (fun _ => hHeld) ?_
         clear hK K
         try simp only [Act.put, getElem_toArray, getElem_cons_zero, getElem_cons_succ, setIfInBounds_toArray, set_cons_zero, set_cons_succ]
         refine wpTo_ready (rs := [8]) (by kernel_rfl) (by simp) ?_
         refine AllTo.cons (o := _) rfl (fun K hK => ?_) ?_
         ·
          (try simp only [getElem_toArray, getElem_cons_zero, getElem_cons_succ])
          go_simp
          refine (l7Of_any r h aa na ca (some ⟨ga5, 0, none⟩) (n + 1) cap5 (us ++ [u]) u5 ((unhide HR).mono (unhide Bu5)) ((unhide HA).mono (unhide Bu5)) (Rd.of_owns (unhide Oku5)) (by omega)).mono ?_
          rintro e u6 ⟨rfl, hb⟩
          have Bu6 := hide ((unhide Bu5).trans (hb.mono (unhide Bu5).size))
          have Kau6 := hide (Blk.below hb Zau5 (unhide Kau5))
          have Zau6 := Nat.lt_of_lt_of_le Zau5 hb.size
          have Ktu6 := hide (Blk.below hb Ztu5 (unhide Ktu5))
          have Ztu6 := Nat.lt_of_lt_of_le Ztu5 hb.size
          have Kuu6 := hide (Blk.below hb Zuu5 (unhide Kuu5))
          have Zuu6 := Nat.lt_of_lt_of_le Zuu5 hb.size
          have Klu6 := hide (Blk.below hb Zlu5 (unhide Klu5))
          have Zlu6 := Nat.lt_of_lt_of_le Zlu5 hb.size
          have Oku6 := hide (own_later (unhide Oku5) hb)
          clear hb
          clear Bu5 Kau5 Zau5 Ktu5 Ztu5 Kuu5 Zuu5 Klu5 Zlu5 Oku5
          clear hHeld
          go_wp2_with fail
          have hHeld := hSmk u6 (unhide Kau6)
          refine hK.out _ _ (fun _ => hHeld) ?_
          clear hK K
          try simp only [Act.put, getElem_toArray, getElem_cons_zero, getElem_cons_succ, setIfInBounds_toArray, set_cons_zero, set_cons_succ]
          refine wpTo_ready (rs := [10]) (by kernel_rfl) (by simp) ?_
          refine AllTo.cons (o := _) rfl (fun K hK => ?_) ?_
          ·
           (try simp only [getElem_toArray, getElem_cons_zero, getElem_cons_succ])
           clear Kuu6 Zuu6
           clear Oku6
           clear Kau6 Zau6
           have p0 := ((unhide Klu6) 0 (by simp)).1
           have q0 := ((unhide Klu6) 0 (by simp)).2
           have p1 := ((unhide Klu6) 1 (by simp)).1
           have q1 := ((unhide Klu6) 1 (by simp)).2
           go_simp
           clear p0 q0 p1 q1
           have Bu7 : Hid (Below w.heap.size w ((u6.setCell ⟨u2.heap.size, 0, none⟩ (.int .i64 (volOf (itemsR r) (us ++ [u])))).setCell ⟨u2.heap.size, 1, none⟩ (.int .i64 (gramOf (itemsR r) (us ++ [u]))))) := (((unhide Bu6).setCell Gl _).setCell Gl _)
           have Klu7 : Hid (Blk ((u6.setCell ⟨u2.heap.size, 0, none⟩ (.int .i64 (volOf (itemsR r) (us ++ [u])))).setCell ⟨u2.heap.size, 1, none⟩ (.int .i64 (gramOf (itemsR r) (us ++ [u])))) u2.heap.size [.int .i64 (volOf (itemsR r) (us ++ [u])), .int .i64 (gramOf (itemsR r) (us ++ [u]))]) := Blk.fill2 (unhide Klu6)
           have Zlu7 : u2.heap.size < ((u6.setCell ⟨u2.heap.size, 0, none⟩ (.int .i64 (volOf (itemsR r) (us ++ [u])))).setCell ⟨u2.heap.size, 1, none⟩ (.int .i64 (gramOf (itemsR r) (us ++ [u])))).heap.size := by simpa using Zlu6
           have Ktu7 : Hid (Blk ((u6.setCell ⟨u2.heap.size, 0, none⟩ (.int .i64 (volOf (itemsR r) (us ++ [u])))).setCell ⟨u2.heap.size, 1, none⟩ (.int .i64 (gramOf (itemsR r) (us ++ [u])))) (w.heap.size + 1) [.int .i64 t.id, .int .i64 t.wd, .int .i64 t.ht, .int .i64 t.dp, .int .i64 t.tare, .int .i64 t.gram, .int .i64 t.cost]) := (((unhide Ktu6).other Nqtl).other Nqtl)
           have Ztu7 : (w.heap.size + 1) < ((u6.setCell ⟨u2.heap.size, 0, none⟩ (.int .i64 (volOf (itemsR r) (us ++ [u])))).setCell ⟨u2.heap.size, 1, none⟩ (.int .i64 (gramOf (itemsR r) (us ++ [u])))).heap.size := by simpa using Ztu6
           clear hHeld
           clear Bu6 Ktu6 Ztu6 Klu6 Zlu6
           generalize ((u6.setCell ⟨u2.heap.size, 0, none⟩ (.int .i64 (volOf (itemsR r) (us ++ [u])))).setCell ⟨u2.heap.size, 1, none⟩ (.int .i64 (gramOf (itemsR r) (us ++ [u])))) = u7 at *
           refine hK.out _ _ (fun hn => absurd (by decide) hn) ?_
           clear hK K
           try simp only [Act.put, getElem_toArray, getElem_cons_zero, getElem_cons_succ, setIfInBounds_toArray, set_cons_zero, set_cons_succ]
           refine wpTo_done (by kernel_rfl) ?_ _
           refine NoPanic.normal ?_
           go_wp2_with fail
           go_meet
           case rel => exact ⟨_, rfl, unhide Klu7, unhide Ktu7, unhide Bu7⟩
          exact AllTo.nil
         exact AllTo.nil
        exact AllTo.nil
       exact AllTo.nil
      exact AllTo.nil
     refine AllTo.cons (o := _) rfl (fun K hK => ?_) ?_
     ·
      (try simp only [getElem_toArray, getElem_cons_zero, getElem_cons_succ])
      have Bu2 := hide ((unhide Bu1).alloc (unhide Bu1).size (.cells #[.int .i64 0, .int .i64 0] 85))
      have Klu2 : Hid (Blk (u1.alloc (.cells #[.int .i64 0, .int .i64 0] 85)) u1.heap.size [.int .i64 0, .int .i64 0]) := Blk.allocAt [.int .i64 0, .int .i64 0] rfl
      have Zlu2 := lt_alloc_new u1 (.cells #[.int .i64 0, .int .i64 0] 85)
      have Gl : w.heap.size ≤ u1.heap.size := (unhide Bu1).size
      have Kau2 := hide ((unhide Kau1).allocOld Zau1 (.cells #[.int .i64 0, .int .i64 0] 85))
      have Zau2 := lt_alloc Zau1 (.cells #[.int .i64 0, .int .i64 0] 85)
      have Ktu2 := hide ((unhide Ktu1).allocOld Ztu1 (.cells #[.int .i64 0, .int .i64 0] 85))
      have Ztu2 := lt_alloc Ztu1 (.cells #[.int .i64 0, .int .i64 0] 85)
      have Nqtl : (w.heap.size + 1) ≠ u1.heap.size := Nat.ne_of_lt Ztu1
      have Kuu2 := hide ((unhide Kuu1).allocOld Zuu1 (.cells #[.int .i64 0, .int .i64 0] 85))
      have Zuu2 := lt_alloc Zuu1 (.cells #[.int .i64 0, .int .i64 0] 85)
      have Nqul : u0.heap.size ≠ u1.heap.size := Nat.ne_of_lt Zuu1
      have Nqlu := Ne.symm Nqul
      go_simp
      clear hHeld
      clear Bu1 Kau1 Zau1 Ktu1 Ztu1 Kuu1 Zuu1
      generalize (u1.alloc (.cells #[.int .i64 0, .int .i64 0] 85)) = u2 at *
      have hHeld := hSmk u2 (unhide Kau2)
      refine hK.out _ _ (fun _ => hHeld) ?_
      clear hK K
      try simp only [Act.put, getElem_toArray, getElem_cons_zero, getElem_cons_succ, setIfInBounds_toArray, set_cons_zero, set_cons_succ]
      refine wpTo_ready (rs := [2]) (by kernel_rfl) (by simp) ?_
      refine AllTo.cons (o := _) rfl (fun K hK => ?_) ?_
      ·
       (try simp only [getElem_toArray, getElem_cons_zero, getElem_cons_succ])
       have Bu3 : Hid (Below w.heap.size w (u2.alloc (.cells #[] 3))) := (unhide Bu2).alloc (unhide Bu2).size _
       have Kau3 := hide ((unhide Kau2).allocOld Zau2 (.cells #[] 3))
       have Zau3 := lt_alloc Zau2 (.cells #[] 3)
       have Nqae : w.heap.size ≠ u2.heap.size := Nat.ne_of_lt Zau2
       have Ktu3 := hide ((unhide Ktu2).allocOld Ztu2 (.cells #[] 3))
       have Ztu3 := lt_alloc Ztu2 (.cells #[] 3)
       have Nqte : (w.heap.size + 1) ≠ u2.heap.size := Nat.ne_of_lt Ztu2
       have Kuu3 := hide ((unhide Kuu2).allocOld Zuu2 (.cells #[] 3))
       have Zuu3 := lt_alloc Zuu2 (.cells #[] 3)
       have Nque : u0.heap.size ≠ u2.heap.size := Nat.ne_of_lt Zuu2
       have Klu3 := hide ((unhide Klu2).allocOld Zlu2 (.cells #[] 3))
       have Zlu3 := lt_alloc Zlu2 (.cells #[] 3)
       have Nqle : u1.heap.size ≠ u2.heap.size := Nat.ne_of_lt Zlu2
       have Oeu3 : Hid ((u2.alloc (.cells #[] 3)).ownsRow w.heap.size 3 1 (.slice (some ⟨u2.heap.size, 0, none⟩) (0) 0) (0) ([])) := own_lit0 u2 (unhide Bu2).size
       go_simp
       clear hHeld
       clear Bu2 Kau2 Zau2 Ktu2 Ztu2 Kuu2 Zuu2 Klu2 Zlu2
       generalize (u2.alloc (.cells #[] 3)) = u3 at *
       have hHeld := hSmk u3 (unhide Kau3)
       refine hK.out _ _ (fun _ => hHeld) ?_
       clear hK K
       try simp only [Act.put, getElem_toArray, getElem_cons_zero, getElem_cons_succ, setIfInBounds_toArray, set_cons_zero, set_cons_succ]
       refine wpTo_ready (rs := [4]) (by kernel_rfl) (by simp) ?_
       refine AllTo.cons (o := _) rfl (fun K hK => ?_) ?_
       ·
        skip
        refine step_append_some _ (by rfl) _ _ 31 (by rfl) w.heap.size 3 i0 (.int .i64 0) 1 8 Tryz.underlying31 hi hz0 hz1 hz2 rfl (by omega) (.slice (some ⟨u2.heap.size, 0, none⟩) (0) 0) (0) ([]) (by rfl) (unhide Oeu3) (by simp) ⟨b, off, none⟩ (n) (c) (us.map (Value.int .i64)) (by rfl) (unhide HU).news_len ((unhide HU).mono (unhide Bu3)).news (news_one us) (by unfold maxLen; omega) (by omega) (unhide Bu3).size ?_
        intro ga4 cap4 u4 ho hg hat hlt
        rw [Nat.zero_add] at ho ⊢
        rw [List.nil_append] at ho
        have Bu4 : Hid (Below w.heap.size w u4) := (unhide Bu3).grown hg (unhide Bu3).size (fun b hb => by have := own_base (unhide Oeu3); simp [Value.ownBlock] at hb; omega)
        have Kau4 := hide (Blk.gb (unhide Kau3) hg Zau3 Nqae)
        have Zau4 := Nat.lt_of_lt_of_le Zau3 hg.size
        have Nqaf := ne_new hat Nqae Zau3
        have Ktu4 := hide (Blk.gb (unhide Ktu3) hg Ztu3 Nqte)
        have Ztu4 := Nat.lt_of_lt_of_le Ztu3 hg.size
        have Nqtf := ne_new hat Nqte Ztu3
        have Kuu4 := hide (Blk.gb (unhide Kuu3) hg Zuu3 Nque)
        have Zuu4 := Nat.lt_of_lt_of_le Zuu3 hg.size
        have Nquf := ne_new hat Nque Zuu3
        have Klu4 := hide (Blk.gb (unhide Klu3) hg Zlu3 Nqle)
        have Zlu4 := Nat.lt_of_lt_of_le Zlu3 hg.size
        have Nqlf := ne_new hat Nqle Zlu3
        have Ofu4 : Hid (u4.ownsRow w.heap.size 3 1 (.slice (some ⟨ga4, 0, none⟩) (n) cap4) (n) (us.map (Value.int .i64))) := ho
        clear ho hg hat hlt hHeld
        clear Bu3 Kau3 Zau3 Ktu3 Ztu3 Kuu3 Zuu3 Klu3 Zlu3 Oeu3
        have hHeld := hSmk u4 (unhide Kau4)
        refine hK.out _ _ (fun _ => hHeld) ?_
        clear hK K
        try simp only [Act.put, getElem_toArray, getElem_cons_zero, getElem_cons_succ, setIfInBounds_toArray, set_cons_zero, set_cons_succ]
        refine wpTo_ready (rs := [7]) (by kernel_rfl) (by simp) ?_
        refine AllTo.cons (o := _) rfl (fun K hK => ?_) ?_
        ·
         skip
         refine step_append_some _ (by rfl) _ _ 31 (by rfl) w.heap.size 3 i0 (.int .i64 0) 1 8 Tryz.underlying31 hi hz0 hz1 hz2 rfl (by omega) (.slice (some ⟨ga4, 0, none⟩) (n) cap4) (n) (us.map (Value.int .i64)) (by rfl) (unhide Ofu4) (by simp) ⟨u0.heap.size, 0, none⟩ (1) (1) ([.int .i64 u]) (by rfl) rfl (unhide Kuu4).news (by simp [Value.oneCell']) (by unfold maxLen; omega) (by omega) (unhide Bu4).size ?_
         intro ga5 cap5 u5 ho hg hat hlt
         rw [show us.map (Value.int .i64) ++ [.int .i64 u] = (us ++ [u]).map (Value.int .i64) from by simp] at ho
         have Bu5 : Hid (Below w.heap.size w u5) := (unhide Bu4).grown hg (unhide Bu4).size (fun b hb => by have := own_base (unhide Ofu4); simp [Value.ownBlock] at hb; omega)
         have Kau5 := hide (Blk.gb (unhide Kau4) hg Zau4 Nqaf)
         have Zau5 := Nat.lt_of_lt_of_le Zau4 hg.size
         have Ktu5 := hide (Blk.gb (unhide Ktu4) hg Ztu4 Nqtf)
         have Ztu5 := Nat.lt_of_lt_of_le Ztu4 hg.size
         have Kuu5 := hide (Blk.gb (unhide Kuu4) hg Zuu4 Nquf)
         have Zuu5 := Nat.lt_of_lt_of_le Zuu4 hg.size
         have Klu5 := hide (Blk.gb (unhide Klu4) hg Zlu4 Nqlf)
         have Zlu5 := Nat.lt_of_lt_of_le Zlu4 hg.size
         have Oku5 : Hid (u5.ownsRow w.heap.size 3 1 (.slice (some ⟨ga5, 0, none⟩) (n + 1) cap5) (n + 1) ((us ++ [u]).map (Value.int .i64))) := ho
         clear ho hg hat hlt hHeld
         clear Bu4 Kau4 Zau4 Ktu4 Ztu4 Kuu4 Zuu4 Klu4 Zlu4 Ofu4
         have hHeld := hSmk u5 (unhide Kau5)
         refine hK.out _ _ (fun _ => hHeld) ?_
         clear hK K
         try simp only [Act.put, getElem_toArray, getElem_cons_zero, getElem_cons_succ, setIfInBounds_toArray, set_cons_zero, set_cons_succ]
         refine wpTo_ready (rs := [8]) (by kernel_rfl) (by simp) ?_
         refine AllTo.cons (o := _) rfl (fun K hK => ?_) ?_
         ·
          (try simp only [getElem_toArray, getElem_cons_zero, getElem_cons_succ])
          go_simp
          refine (l7Of_any r h aa na ca (some ⟨ga5, 0, none⟩) (n + 1) cap5 (us ++ [u]) u5 ((unhide HR).mono (unhide Bu5)) ((unhide HA).mono (unhide Bu5)) (Rd.of_owns (unhide Oku5)) (by omega)).mono ?_
          rintro e u6 ⟨rfl, hb⟩
          have Bu6 := hide ((unhide Bu5).trans (hb.mono (unhide Bu5).size))
          have Kau6 := hide (Blk.below hb Zau5 (unhide Kau5))
          have Zau6 := Nat.lt_of_lt_of_le Zau5 hb.size
          have Ktu6 := hide (Blk.below hb Ztu5 (unhide Ktu5))
          have Ztu6 := Nat.lt_of_lt_of_le Ztu5 hb.size
          have Kuu6 := hide (Blk.below hb Zuu5 (unhide Kuu5))
          have Zuu6 := Nat.lt_of_lt_of_le Zuu5 hb.size
          have Klu6 := hide (Blk.below hb Zlu5 (unhide Klu5))
          have Zlu6 := Nat.lt_of_lt_of_le Zlu5 hb.size
          have Oku6 := hide (own_later (unhide Oku5) hb)
          clear hb
          clear Bu5 Kau5 Zau5 Ktu5 Ztu5 Kuu5 Zuu5 Klu5 Zlu5 Oku5
          clear hHeld
          go_wp2_with fail
          have hHeld := hSmk u6 (unhide Kau6)
          refine hK.out _ _ (fun _ => hHeld) ?_
          clear hK K
          try simp only [Act.put, getElem_toArray, getElem_cons_zero, getElem_cons_succ, setIfInBounds_toArray, set_cons_zero, set_cons_succ]
          refine wpTo_ready (rs := [10]) (by kernel_rfl) (by simp) ?_
          refine AllTo.cons (o := _) rfl (fun K hK => ?_) ?_
          ·
           (try simp only [getElem_toArray, getElem_cons_zero, getElem_cons_succ])
           clear Kuu6 Zuu6
           clear Oku6
           clear Kau6 Zau6
           have p0 := ((unhide Klu6) 0 (by simp)).1
           have q0 := ((unhide Klu6) 0 (by simp)).2
           have p1 := ((unhide Klu6) 1 (by simp)).1
           have q1 := ((unhide Klu6) 1 (by simp)).2
           go_simp
           clear p0 q0 p1 q1
           have Bu7 : Hid (Below w.heap.size w ((u6.setCell ⟨u1.heap.size, 0, none⟩ (.int .i64 (volOf (itemsR r) (us ++ [u])))).setCell ⟨u1.heap.size, 1, none⟩ (.int .i64 (gramOf (itemsR r) (us ++ [u]))))) := (((unhide Bu6).setCell Gl _).setCell Gl _)
           have Klu7 : Hid (Blk ((u6.setCell ⟨u1.heap.size, 0, none⟩ (.int .i64 (volOf (itemsR r) (us ++ [u])))).setCell ⟨u1.heap.size, 1, none⟩ (.int .i64 (gramOf (itemsR r) (us ++ [u])))) u1.heap.size [.int .i64 (volOf (itemsR r) (us ++ [u])), .int .i64 (gramOf (itemsR r) (us ++ [u]))]) := Blk.fill2 (unhide Klu6)
           have Zlu7 : u1.heap.size < ((u6.setCell ⟨u1.heap.size, 0, none⟩ (.int .i64 (volOf (itemsR r) (us ++ [u])))).setCell ⟨u1.heap.size, 1, none⟩ (.int .i64 (gramOf (itemsR r) (us ++ [u])))).heap.size := by simpa using Zlu6
           have Ktu7 : Hid (Blk ((u6.setCell ⟨u1.heap.size, 0, none⟩ (.int .i64 (volOf (itemsR r) (us ++ [u])))).setCell ⟨u1.heap.size, 1, none⟩ (.int .i64 (gramOf (itemsR r) (us ++ [u])))) (w.heap.size + 1) [.int .i64 t.id, .int .i64 t.wd, .int .i64 t.ht, .int .i64 t.dp, .int .i64 t.tare, .int .i64 t.gram, .int .i64 t.cost]) := (((unhide Ktu6).other Nqtl).other Nqtl)
           have Ztu7 : (w.heap.size + 1) < ((u6.setCell ⟨u1.heap.size, 0, none⟩ (.int .i64 (volOf (itemsR r) (us ++ [u])))).setCell ⟨u1.heap.size, 1, none⟩ (.int .i64 (gramOf (itemsR r) (us ++ [u])))).heap.size := by simpa using Ztu6
           clear hHeld
           clear Bu6 Ktu6 Ztu6 Klu6 Zlu6
           generalize ((u6.setCell ⟨u1.heap.size, 0, none⟩ (.int .i64 (volOf (itemsR r) (us ++ [u])))).setCell ⟨u1.heap.size, 1, none⟩ (.int .i64 (gramOf (itemsR r) (us ++ [u])))) = u7 at *
           refine hK.out _ _ (fun hn => absurd (by decide) hn) ?_
           clear hK K
           try simp only [Act.put, getElem_toArray, getElem_cons_zero, getElem_cons_succ, setIfInBounds_toArray, set_cons_zero, set_cons_succ]
           refine wpTo_done (by kernel_rfl) ?_ _
           refine NoPanic.normal ?_
           go_wp2_with fail
           go_meet
           case rel => exact ⟨_, rfl, unhide Klu7, unhide Ktu7, unhide Bu7⟩
          exact AllTo.nil
         exact AllTo.nil
        exact AllTo.nil
       exact AllTo.nil
      exact AllTo.nil
     exact AllTo.nil
    refine AllTo.cons (o := _) rfl (fun K hK => ?_) ?_
    ·
     (try simp only [getElem_toArray, getElem_cons_zero, getElem_cons_succ])
     have Bu1 := hide ((unhide Bu0).alloc (unhide Bu0).size (.cells #[.int .i64 0, .int .i64 0] 85))
     have Klu1 : Hid (Blk (u0.alloc (.cells #[.int .i64 0, .int .i64 0] 85)) u0.heap.size [.int .i64 0, .int .i64 0]) := Blk.allocAt [.int .i64 0, .int .i64 0] rfl
     have Zlu1 := lt_alloc_new u0 (.cells #[.int .i64 0, .int .i64 0] 85)
     have Gl : w.heap.size ≤ u0.heap.size := (unhide Bu0).size
     have Kau1 := hide ((unhide Kau0).allocOld Zau0 (.cells #[.int .i64 0, .int .i64 0] 85))
     have Zau1 := lt_alloc Zau0 (.cells #[.int .i64 0, .int .i64 0] 85)
     have Ktu1 := hide ((unhide Ktu0).allocOld Ztu0 (.cells #[.int .i64 0, .int .i64 0] 85))
     have Ztu1 := lt_alloc Ztu0 (.cells #[.int .i64 0, .int .i64 0] 85)
     have Nqtl : (w.heap.size + 1) ≠ u0.heap.size := Nat.ne_of_lt Ztu0
     go_simp
     clear hHeld
     clear Bu0 Kau0 Zau0 Ktu0 Ztu0
     generalize (u0.alloc (.cells #[.int .i64 0, .int .i64 0] 85)) = u1 at *
     have hHeld := hSmk u1 (unhide Kau1)
     refine hK.out _ _ (fun _ => hHeld) ?_
     clear hK K
     try simp only [Act.put, getElem_toArray, getElem_cons_zero, getElem_cons_succ, setIfInBounds_toArray, set_cons_zero, set_cons_succ]
     refine wpTo_ready (rs := [2, 6]) (by kernel_rfl) (by simp) ?_
     refine AllTo.cons (o := _) rfl (fun K hK => ?_) ?_
     ·
      (try simp only [getElem_toArray, getElem_cons_zero, getElem_cons_succ])
      have Bu2 : Hid (Below w.heap.size w (u1.alloc (.cells #[] 3))) := (unhide Bu1).alloc (unhide Bu1).size _
      have Kau2 := hide ((unhide Kau1).allocOld Zau1 (.cells #[] 3))
      have Zau2 := lt_alloc Zau1 (.cells #[] 3)
      have Nqae : w.heap.size ≠ u1.heap.size := Nat.ne_of_lt Zau1
      have Ktu2 := hide ((unhide Ktu1).allocOld Ztu1 (.cells #[] 3))
      have Ztu2 := lt_alloc Ztu1 (.cells #[] 3)
      have Nqte : (w.heap.size + 1) ≠ u1.heap.size := Nat.ne_of_lt Ztu1
      have Klu2 := hide ((unhide Klu1).allocOld Zlu1 (.cells #[] 3))
      have Zlu2 := lt_alloc Zlu1 (.cells #[] 3)
      have Nqle : u0.heap.size ≠ u1.heap.size := Nat.ne_of_lt Zlu1
      have Oeu2 : Hid ((u1.alloc (.cells #[] 3)).ownsRow w.heap.size 3 1 (.slice (some ⟨u1.heap.size, 0, none⟩) (0) 0) (0) ([])) := own_lit0 u1 (unhide Bu1).size
      go_simp
      clear hHeld
      clear Bu1 Kau1 Zau1 Ktu1 Ztu1 Klu1 Zlu1
      generalize (u1.alloc (.cells #[] 3)) = u2 at *
      have hHeld := hSmk u2 (unhide Kau2)
      refine hK.out _ _ (fun _ => hHeld) ?_
      clear hK K
      try simp only [Act.put, getElem_toArray, getElem_cons_zero, getElem_cons_succ, setIfInBounds_toArray, set_cons_zero, set_cons_succ]
      refine wpTo_ready (rs := [4, 6]) (by kernel_rfl) (by simp) ?_
      refine AllTo.cons (o := _) rfl (fun K hK => ?_) ?_
      ·
       skip
       refine step_append_some _ (by rfl) _ _ 31 (by rfl) w.heap.size 3 i0 (.int .i64 0) 1 8 Tryz.underlying31 hi hz0 hz1 hz2 rfl (by omega) (.slice (some ⟨u1.heap.size, 0, none⟩) (0) 0) (0) ([]) (by rfl) (unhide Oeu2) (by simp) ⟨b, off, none⟩ (n) (c) (us.map (Value.int .i64)) (by rfl) (unhide HU).news_len ((unhide HU).mono (unhide Bu2)).news (news_one us) (by unfold maxLen; omega) (by omega) (unhide Bu2).size ?_
       intro ga3 cap3 u3 ho hg hat hlt
       rw [Nat.zero_add] at ho ⊢
       rw [List.nil_append] at ho
       have Bu3 : Hid (Below w.heap.size w u3) := (unhide Bu2).grown hg (unhide Bu2).size (fun b hb => by have := own_base (unhide Oeu2); simp [Value.ownBlock] at hb; omega)
       have Kau3 := hide (Blk.gb (unhide Kau2) hg Zau2 Nqae)
       have Zau3 := Nat.lt_of_lt_of_le Zau2 hg.size
       have Nqaf := ne_new hat Nqae Zau2
       have Ktu3 := hide (Blk.gb (unhide Ktu2) hg Ztu2 Nqte)
       have Ztu3 := Nat.lt_of_lt_of_le Ztu2 hg.size
       have Nqtf := ne_new hat Nqte Ztu2
       have Klu3 := hide (Blk.gb (unhide Klu2) hg Zlu2 Nqle)
       have Zlu3 := Nat.lt_of_lt_of_le Zlu2 hg.size
       have Nqlf := ne_new hat Nqle Zlu2
       have Ofu3 : Hid (u3.ownsRow w.heap.size 3 1 (.slice (some ⟨ga3, 0, none⟩) (n) cap3) (n) (us.map (Value.int .i64))) := ho
       clear ho hg hat hlt hHeld
       clear Bu2 Kau2 Zau2 Ktu2 Ztu2 Klu2 Zlu2 Oeu2
       have hHeld := hSmk u3 (unhide Kau3)
       refine hK.out _ _ (fun _ => hHeld) ?_
       clear hK K
       try simp only [Act.put, getElem_toArray, getElem_cons_zero, getElem_cons_succ, setIfInBounds_toArray, set_cons_zero, set_cons_succ]
       refine wpTo_ready (rs := [6]) (by kernel_rfl) (by simp) ?_
       refine AllTo.cons (o := _) rfl (fun K hK => ?_) ?_
       ·
        (try simp only [getElem_toArray, getElem_cons_zero, getElem_cons_succ])
        have Bu4 := hide ((unhide Bu3).alloc (unhide Bu3).size (.cells #[.int .i64 u] 3))
        have Kuu4 : Hid (Blk (u3.alloc (.cells #[.int .i64 u] 3)) u3.heap.size [.int .i64 u]) := Blk.allocAt [.int .i64 u] rfl
        have Zuu4 := lt_alloc_new u3 (.cells #[.int .i64 u] 3)
        have Gu : w.heap.size ≤ u3.heap.size := (unhide Bu3).size
        have Kau4 := hide ((unhide Kau3).allocOld Zau3 (.cells #[.int .i64 u] 3))
        have Zau4 := lt_alloc Zau3 (.cells #[.int .i64 u] 3)
        have Ktu4 := hide ((unhide Ktu3).allocOld Ztu3 (.cells #[.int .i64 u] 3))
        have Ztu4 := lt_alloc Ztu3 (.cells #[.int .i64 u] 3)
        have Klu4 := hide ((unhide Klu3).allocOld Zlu3 (.cells #[.int .i64 u] 3))
        have Zlu4 := lt_alloc Zlu3 (.cells #[.int .i64 u] 3)
        have Nqlu : u0.heap.size ≠ u3.heap.size := Nat.ne_of_lt Zlu3
        have Nqul := Ne.symm Nqlu
        have Ofu4 := hide ((unhide Ofu3).alloc (.cells #[.int .i64 u] 3))
        have Nquf : u3.heap.size ≠ ga3 := Nat.ne_of_gt ((unhide Ofu3).lt _ rfl).2
        go_simp
        clear hHeld
        clear Bu3 Kau3 Zau3 Ktu3 Ztu3 Klu3 Zlu3 Ofu3
        generalize (u3.alloc (.cells #[.int .i64 u] 3)) = u4 at *
        have hHeld := hSmk u4 (unhide Kau4)
        refine hK.out _ _ (fun _ => hHeld) ?_
        clear hK K
        try simp only [Act.put, getElem_toArray, getElem_cons_zero, getElem_cons_succ, setIfInBounds_toArray, set_cons_zero, set_cons_succ]
        refine wpTo_ready (rs := [7]) (by kernel_rfl) (by simp) ?_
        refine AllTo.cons (o := _) rfl (fun K hK => ?_) ?_
        ·
         skip
         refine step_append_some _ (by rfl) _ _ 31 (by rfl) w.heap.size 3 i0 (.int .i64 0) 1 8 Tryz.underlying31 hi hz0 hz1 hz2 rfl (by omega) (.slice (some ⟨ga3, 0, none⟩) (n) cap3) (n) (us.map (Value.int .i64)) (by rfl) (unhide Ofu4) (by simp) ⟨u3.heap.size, 0, none⟩ (1) (1) ([.int .i64 u]) (by rfl) rfl (unhide Kuu4).news (by simp [Value.oneCell']) (by unfold maxLen; omega) (by omega) (unhide Bu4).size ?_
         intro ga5 cap5 u5 ho hg hat hlt
         rw [show us.map (Value.int .i64) ++ [.int .i64 u] = (us ++ [u]).map (Value.int .i64) from by simp] at ho
         have Bu5 : Hid (Below w.heap.size w u5) := (unhide Bu4).grown hg (unhide Bu4).size (fun b hb => by have := own_base (unhide Ofu4); simp [Value.ownBlock] at hb; omega)
         have Kau5 := hide (Blk.gb (unhide Kau4) hg Zau4 Nqaf)
         have Zau5 := Nat.lt_of_lt_of_le Zau4 hg.size
         have Ktu5 := hide (Blk.gb (unhide Ktu4) hg Ztu4 Nqtf)
         have Ztu5 := Nat.lt_of_lt_of_le Ztu4 hg.size
         have Klu5 := hide (Blk.gb (unhide Klu4) hg Zlu4 Nqlf)
         have Zlu5 := Nat.lt_of_lt_of_le Zlu4 hg.size
         have Kuu5 := hide (Blk.gb (unhide Kuu4) hg Zuu4 Nquf)
         have Zuu5 := Nat.lt_of_lt_of_le Zuu4 hg.size
         have Oku5 : Hid (u5.ownsRow w.heap.size 3 1 (.slice (some ⟨ga5, 0, none⟩) (n + 1) cap5) (n + 1) ((us ++ [u]).map (Value.int .i64))) := ho
         clear ho hg hat hlt hHeld
         clear Bu4 Kau4 Zau4 Ktu4 Ztu4 Klu4 Zlu4 Kuu4 Zuu4 Ofu4
         have hHeld := hSmk u5 (unhide Kau5)
         refine hK.out _ _ (fun _ => hHeld) ?_
         clear hK K
         try simp only [Act.put, getElem_toArray, getElem_cons_zero, getElem_cons_succ, setIfInBounds_toArray, set_cons_zero, set_cons_succ]
         refine wpTo_ready (rs := [8]) (by kernel_rfl) (by simp) ?_
         refine AllTo.cons (o := _) rfl (fun K hK => ?_) ?_
         ·
          (try simp only [getElem_toArray, getElem_cons_zero, getElem_cons_succ])
          go_simp
          refine (l7Of_any r h aa na ca (some ⟨ga5, 0, none⟩) (n + 1) cap5 (us ++ [u]) u5 ((unhide HR).mono (unhide Bu5)) ((unhide HA).mono (unhide Bu5)) (Rd.of_owns (unhide Oku5)) (by omega)).mono ?_
          rintro e u6 ⟨rfl, hb⟩
          have Bu6 := hide ((unhide Bu5).trans (hb.mono (unhide Bu5).size))
          have Kau6 := hide (Blk.below hb Zau5 (unhide Kau5))
          have Zau6 := Nat.lt_of_lt_of_le Zau5 hb.size
          have Ktu6 := hide (Blk.below hb Ztu5 (unhide Ktu5))
          have Ztu6 := Nat.lt_of_lt_of_le Ztu5 hb.size
          have Klu6 := hide (Blk.below hb Zlu5 (unhide Klu5))
          have Zlu6 := Nat.lt_of_lt_of_le Zlu5 hb.size
          have Kuu6 := hide (Blk.below hb Zuu5 (unhide Kuu5))
          have Zuu6 := Nat.lt_of_lt_of_le Zuu5 hb.size
          have Oku6 := hide (own_later (unhide Oku5) hb)
          clear hb
          clear Bu5 Kau5 Zau5 Ktu5 Ztu5 Klu5 Zlu5 Kuu5 Zuu5 Oku5
          clear hHeld
          go_wp2_with fail
          have hHeld := hSmk u6 (unhide Kau6)
          refine hK.out _ _ (fun _ => hHeld) ?_
          clear hK K
          try simp only [Act.put, getElem_toArray, getElem_cons_zero, getElem_cons_succ, setIfInBounds_toArray, set_cons_zero, set_cons_succ]
          refine wpTo_ready (rs := [10]) (by kernel_rfl) (by simp) ?_
          refine AllTo.cons (o := _) rfl (fun K hK => ?_) ?_
          ·
           (try simp only [getElem_toArray, getElem_cons_zero, getElem_cons_succ])
           clear Kuu6 Zuu6
           clear Oku6
           clear Kau6 Zau6
           have p0 := ((unhide Klu6) 0 (by simp)).1
           have q0 := ((unhide Klu6) 0 (by simp)).2
           have p1 := ((unhide Klu6) 1 (by simp)).1
           have q1 := ((unhide Klu6) 1 (by simp)).2
           go_simp
           clear p0 q0 p1 q1
           have Bu7 : Hid (Below w.heap.size w ((u6.setCell ⟨u0.heap.size, 0, none⟩ (.int .i64 (volOf (itemsR r) (us ++ [u])))).setCell ⟨u0.heap.size, 1, none⟩ (.int .i64 (gramOf (itemsR r) (us ++ [u]))))) := (((unhide Bu6).setCell Gl _).setCell Gl _)
           have Klu7 : Hid (Blk ((u6.setCell ⟨u0.heap.size, 0, none⟩ (.int .i64 (volOf (itemsR r) (us ++ [u])))).setCell ⟨u0.heap.size, 1, none⟩ (.int .i64 (gramOf (itemsR r) (us ++ [u])))) u0.heap.size [.int .i64 (volOf (itemsR r) (us ++ [u])), .int .i64 (gramOf (itemsR r) (us ++ [u]))]) := Blk.fill2 (unhide Klu6)
           have Zlu7 : u0.heap.size < ((u6.setCell ⟨u0.heap.size, 0, none⟩ (.int .i64 (volOf (itemsR r) (us ++ [u])))).setCell ⟨u0.heap.size, 1, none⟩ (.int .i64 (gramOf (itemsR r) (us ++ [u])))).heap.size := by simpa using Zlu6
           have Ktu7 : Hid (Blk ((u6.setCell ⟨u0.heap.size, 0, none⟩ (.int .i64 (volOf (itemsR r) (us ++ [u])))).setCell ⟨u0.heap.size, 1, none⟩ (.int .i64 (gramOf (itemsR r) (us ++ [u])))) (w.heap.size + 1) [.int .i64 t.id, .int .i64 t.wd, .int .i64 t.ht, .int .i64 t.dp, .int .i64 t.tare, .int .i64 t.gram, .int .i64 t.cost]) := (((unhide Ktu6).other Nqtl).other Nqtl)
           have Ztu7 : (w.heap.size + 1) < ((u6.setCell ⟨u0.heap.size, 0, none⟩ (.int .i64 (volOf (itemsR r) (us ++ [u])))).setCell ⟨u0.heap.size, 1, none⟩ (.int .i64 (gramOf (itemsR r) (us ++ [u])))).heap.size := by simpa using Ztu6
           clear hHeld
           clear Bu6 Ktu6 Ztu6 Klu6 Zlu6
           generalize ((u6.setCell ⟨u0.heap.size, 0, none⟩ (.int .i64 (volOf (itemsR r) (us ++ [u])))).setCell ⟨u0.heap.size, 1, none⟩ (.int .i64 (gramOf (itemsR r) (us ++ [u])))) = u7 at *
           refine hK.out _ _ (fun hn => absurd (by decide) hn) ?_
           clear hK K
           try simp only [Act.put, getElem_toArray, getElem_cons_zero, getElem_cons_succ, setIfInBounds_toArray, set_cons_zero, set_cons_succ]
           refine wpTo_done (by kernel_rfl) ?_ _
           refine NoPanic.normal ?_
           go_wp2_with fail
           go_meet
           case rel => exact ⟨_, rfl, unhide Klu7, unhide Ktu7, unhide Bu7⟩
          exact AllTo.nil
         exact AllTo.nil
        exact AllTo.nil
       exact AllTo.nil
      refine AllTo.cons (o := _) rfl (fun K hK => ?_) ?_
      ·
       (try simp only [getElem_toArray, getElem_cons_zero, getElem_cons_succ])
       have Bu3 := hide ((unhide Bu2).alloc (unhide Bu2).size (.cells #[.int .i64 u] 3))
       have Kuu3 : Hid (Blk (u2.alloc (.cells #[.int .i64 u] 3)) u2.heap.size [.int .i64 u]) := Blk.allocAt [.int .i64 u] rfl
       have Zuu3 := lt_alloc_new u2 (.cells #[.int .i64 u] 3)
       have Gu : w.heap.size ≤ u2.heap.size := (unhide Bu2).size
       have Kau3 := hide ((unhide Kau2).allocOld Zau2 (.cells #[.int .i64 u] 3))
       have Zau3 := lt_alloc Zau2 (.cells #[.int .i64 u] 3)
       have Ktu3 := hide ((unhide Ktu2).allocOld Ztu2 (.cells #[.int .i64 u] 3))
       have Ztu3 := lt_alloc Ztu2 (.cells #[.int .i64 u] 3)
       have Klu3 := hide ((unhide Klu2).allocOld Zlu2 (.cells #[.int .i64 u] 3))
       have Zlu3 := lt_alloc Zlu2 (.cells #[.int .i64 u] 3)
       have Nqlu : u0.heap.size ≠ u2.heap.size := Nat.ne_of_lt Zlu2
       have Nqul := Ne.symm Nqlu
       have Oeu3 := hide ((unhide Oeu2).alloc (.cells #[.int .i64 u] 3))
       have Nque : u2.heap.size ≠ u1.heap.size := Nat.ne_of_gt ((unhide Oeu2).lt _ rfl).2
       go_simp
       clear hHeld
       clear Bu2 Kau2 Zau2 Ktu2 Ztu2 Klu2 Zlu2 Oeu2
       generalize (u2.alloc (.cells #[.int .i64 u] 3)) = u3 at *
       have hHeld := hSmk u3 (unhide Kau3)
       refine hK.out _ _ (fun _ => hHeld) ?_
       clear hK K
       try simp only [Act.put, getElem_toArray, getElem_cons_zero, getElem_cons_succ, setIfInBounds_toArray, set_cons_zero, set_cons_succ]
       refine wpTo_ready (rs := [4]) (by kernel_rfl) (by simp) ?_
       refine AllTo.cons (o := _) rfl (fun K hK => ?_) ?_
       ·
        skip
        refine step_append_some _ (by rfl) _ _ 31 (by rfl) w.heap.size 3 i0 (.int .i64 0) 1 8 Tryz.underlying31 hi hz0 hz1 hz2 rfl (by omega) (.slice (some ⟨u1.heap.size, 0, none⟩) (0) 0) (0) ([]) (by rfl) (unhide Oeu3) (by simp) ⟨b, off, none⟩ (n) (c) (us.map (Value.int .i64)) (by rfl) (unhide HU).news_len ((unhide HU).mono (unhide Bu3)).news (news_one us) (by unfold maxLen; omega) (by omega) (unhide Bu3).size ?_
        intro ga4 cap4 u4 ho hg hat hlt
        rw [Nat.zero_add] at ho ⊢
        rw [List.nil_append] at ho
        have Bu4 : Hid (Below w.heap.size w u4) := (unhide Bu3).grown hg (unhide Bu3).size (fun b hb => by have := own_base (unhide Oeu3); simp [Value.ownBlock] at hb; omega)
        have Kau4 := hide (Blk.gb (unhide Kau3) hg Zau3 Nqae)
        have Zau4 := Nat.lt_of_lt_of_le Zau3 hg.size
        have Nqaf := ne_new hat Nqae Zau3
        have Ktu4 := hide (Blk.gb (unhide Ktu3) hg Ztu3 Nqte)
        have Ztu4 := Nat.lt_of_lt_of_le Ztu3 hg.size
        have Nqtf := ne_new hat Nqte Ztu3
        have Klu4 := hide (Blk.gb (unhide Klu3) hg Zlu3 Nqle)
        have Zlu4 := Nat.lt_of_lt_of_le Zlu3 hg.size
        have Nqlf := ne_new hat Nqle Zlu3
        have Kuu4 := hide (Blk.gb (unhide Kuu3) hg Zuu3 Nque)
        have Zuu4 := Nat.lt_of_lt_of_le Zuu3 hg.size
        have Nquf := ne_new hat Nque Zuu3
        have Ofu4 : Hid (u4.ownsRow w.heap.size 3 1 (.slice (some ⟨ga4, 0, none⟩) (n) cap4) (n) (us.map (Value.int .i64))) := ho
        clear ho hg hat hlt hHeld
        clear Bu3 Kau3 Zau3 Ktu3 Ztu3 Klu3 Zlu3 Kuu3 Zuu3 Oeu3
        have hHeld := hSmk u4 (unhide Kau4)
        refine hK.out _ _ (fun _ => hHeld) ?_
        clear hK K
        try simp only [Act.put, getElem_toArray, getElem_cons_zero, getElem_cons_succ, setIfInBounds_toArray, set_cons_zero, set_cons_succ]
        refine wpTo_ready (rs := [7]) (by kernel_rfl) (by simp) ?_
        refine AllTo.cons (o := _) rfl (fun K hK => ?_) ?_
        ·
         skip
         refine step_append_some _ (by rfl) _ _ 31 (by rfl) w.heap.size 3 i0 (.int .i64 0) 1 8 Tryz.underlying31 hi hz0 hz1 hz2 rfl (by omega) (.slice (some ⟨ga4, 0, none⟩) (n) cap4) (n) (us.map (Value.int .i64)) (by rfl) (unhide Ofu4) (by simp) ⟨u2.heap.size, 0, none⟩ (1) (1) ([.int .i64 u]) (by rfl) rfl (unhide Kuu4).news (by simp [Value.oneCell']) (by unfold maxLen; omega) (by omega) (unhide Bu4).size ?_
         intro ga5 cap5 u5 ho hg hat hlt
         rw [show us.map (Value.int .i64) ++ [.int .i64 u] = (us ++ [u]).map (Value.int .i64) from by simp] at ho
         have Bu5 : Hid (Below w.heap.size w u5) := (unhide Bu4).grown hg (unhide Bu4).size (fun b hb => by have := own_base (unhide Ofu4); simp [Value.ownBlock] at hb; omega)
         have Kau5 := hide (Blk.gb (unhide Kau4) hg Zau4 Nqaf)
         have Zau5 := Nat.lt_of_lt_of_le Zau4 hg.size
         have Ktu5 := hide (Blk.gb (unhide Ktu4) hg Ztu4 Nqtf)
         have Ztu5 := Nat.lt_of_lt_of_le Ztu4 hg.size
         have Klu5 := hide (Blk.gb (unhide Klu4) hg Zlu4 Nqlf)
         have Zlu5 := Nat.lt_of_lt_of_le Zlu4 hg.size
         have Kuu5 := hide (Blk.gb (unhide Kuu4) hg Zuu4 Nquf)
         have Zuu5 := Nat.lt_of_lt_of_le Zuu4 hg.size
         have Oku5 : Hid (u5.ownsRow w.heap.size 3 1 (.slice (some ⟨ga5, 0, none⟩) (n + 1) cap5) (n + 1) ((us ++ [u]).map (Value.int .i64))) := ho
         clear ho hg hat hlt hHeld
         clear Bu4 Kau4 Zau4 Ktu4 Ztu4 Klu4 Zlu4 Kuu4 Zuu4 Ofu4
         have hHeld := hSmk u5 (unhide Kau5)
         refine hK.out _ _ (fun _ => hHeld) ?_
         clear hK K
         try simp only [Act.put, getElem_toArray, getElem_cons_zero, getElem_cons_succ, setIfInBounds_toArray, set_cons_zero, set_cons_succ]
         refine wpTo_ready (rs := [8]) (by kernel_rfl) (by simp) ?_
         refine AllTo.cons (o := _) rfl (fun K hK => ?_) ?_
         ·
          (try simp only [getElem_toArray, getElem_cons_zero, getElem_cons_succ])
          go_simp
          refine (l7Of_any r h aa na ca (some ⟨ga5, 0, none⟩) (n + 1) cap5 (us ++ [u]) u5 ((unhide HR).mono (unhide Bu5)) ((unhide HA).mono (unhide Bu5)) (Rd.of_owns (unhide Oku5)) (by omega)).mono ?_
          rintro e u6 ⟨rfl, hb⟩
          have Bu6 := hide ((unhide Bu5).trans (hb.mono (unhide Bu5).size))
          have Kau6 := hide (Blk.below hb Zau5 (unhide Kau5))
          have Zau6 := Nat.lt_of_lt_of_le Zau5 hb.size
          have Ktu6 := hide (Blk.below hb Ztu5 (unhide Ktu5))
          have Ztu6 := Nat.lt_of_lt_of_le Ztu5 hb.size
          have Klu6 := hide (Blk.below hb Zlu5 (unhide Klu5))
          have Zlu6 := Nat.lt_of_lt_of_le Zlu5 hb.size
          have Kuu6 := hide (Blk.below hb Zuu5 (unhide Kuu5))
          have Zuu6 := Nat.lt_of_lt_of_le Zuu5 hb.size
          have Oku6 := hide (own_later (unhide Oku5) hb)
          clear hb
          clear Bu5 Kau5 Zau5 Ktu5 Ztu5 Klu5 Zlu5 Kuu5 Zuu5 Oku5
          clear hHeld
          go_wp2_with fail
          have hHeld := hSmk u6 (unhide Kau6)
          refine hK.out _ _ (fun _ => hHeld) ?_
          clear hK K
          try simp only [Act.put, getElem_toArray, getElem_cons_zero, getElem_cons_succ, setIfInBounds_toArray, set_cons_zero, set_cons_succ]
          refine wpTo_ready (rs := [10]) (by kernel_rfl) (by simp) ?_
          refine AllTo.cons (o := _) rfl (fun K hK => ?_) ?_
          ·
           (try simp only [getElem_toArray, getElem_cons_zero, getElem_cons_succ])
           clear Kuu6 Zuu6
           clear Oku6
           clear Kau6 Zau6
           have p0 := ((unhide Klu6) 0 (by simp)).1
           have q0 := ((unhide Klu6) 0 (by simp)).2
           have p1 := ((unhide Klu6) 1 (by simp)).1
           have q1 := ((unhide Klu6) 1 (by simp)).2
           go_simp
           clear p0 q0 p1 q1
           have Bu7 : Hid (Below w.heap.size w ((u6.setCell ⟨u0.heap.size, 0, none⟩ (.int .i64 (volOf (itemsR r) (us ++ [u])))).setCell ⟨u0.heap.size, 1, none⟩ (.int .i64 (gramOf (itemsR r) (us ++ [u]))))) := (((unhide Bu6).setCell Gl _).setCell Gl _)
           have Klu7 : Hid (Blk ((u6.setCell ⟨u0.heap.size, 0, none⟩ (.int .i64 (volOf (itemsR r) (us ++ [u])))).setCell ⟨u0.heap.size, 1, none⟩ (.int .i64 (gramOf (itemsR r) (us ++ [u])))) u0.heap.size [.int .i64 (volOf (itemsR r) (us ++ [u])), .int .i64 (gramOf (itemsR r) (us ++ [u]))]) := Blk.fill2 (unhide Klu6)
           have Zlu7 : u0.heap.size < ((u6.setCell ⟨u0.heap.size, 0, none⟩ (.int .i64 (volOf (itemsR r) (us ++ [u])))).setCell ⟨u0.heap.size, 1, none⟩ (.int .i64 (gramOf (itemsR r) (us ++ [u])))).heap.size := by simpa using Zlu6
           have Ktu7 : Hid (Blk ((u6.setCell ⟨u0.heap.size, 0, none⟩ (.int .i64 (volOf (itemsR r) (us ++ [u])))).setCell ⟨u0.heap.size, 1, none⟩ (.int .i64 (gramOf (itemsR r) (us ++ [u])))) (w.heap.size + 1) [.int .i64 t.id, .int .i64 t.wd, .int .i64 t.ht, .int .i64 t.dp, .int .i64 t.tare, .int .i64 t.gram, .int .i64 t.cost]) := (((unhide Ktu6).other Nqtl).other Nqtl)
           have Ztu7 : (w.heap.size + 1) < ((u6.setCell ⟨u0.heap.size, 0, none⟩ (.int .i64 (volOf (itemsR r) (us ++ [u])))).setCell ⟨u0.heap.size, 1, none⟩ (.int .i64 (gramOf (itemsR r) (us ++ [u])))).heap.size := by simpa using Ztu6
           clear hHeld
           clear Bu6 Ktu6 Ztu6 Klu6 Zlu6
           generalize ((u6.setCell ⟨u0.heap.size, 0, none⟩ (.int .i64 (volOf (itemsR r) (us ++ [u])))).setCell ⟨u0.heap.size, 1, none⟩ (.int .i64 (gramOf (itemsR r) (us ++ [u])))) = u7 at *
           refine hK.out _ _ (fun hn => absurd (by decide) hn) ?_
           clear hK K
           try simp only [Act.put, getElem_toArray, getElem_cons_zero, getElem_cons_succ, setIfInBounds_toArray, set_cons_zero, set_cons_succ]
           refine wpTo_done (by kernel_rfl) ?_ _
           refine NoPanic.normal ?_
           go_wp2_with fail
           go_meet
           case rel => exact ⟨_, rfl, unhide Klu7, unhide Ktu7, unhide Bu7⟩
          exact AllTo.nil
         exact AllTo.nil
        exact AllTo.nil
       exact AllTo.nil
      exact AllTo.nil
     refine AllTo.cons (o := _) rfl (fun K hK => ?_) ?_
     ·
      (try simp only [getElem_toArray, getElem_cons_zero, getElem_cons_succ])
      have Bu2 := hide ((unhide Bu1).alloc (unhide Bu1).size (.cells #[.int .i64 u] 3))
      have Kuu2 : Hid (Blk (u1.alloc (.cells #[.int .i64 u] 3)) u1.heap.size [.int .i64 u]) := Blk.allocAt [.int .i64 u] rfl
      have Zuu2 := lt_alloc_new u1 (.cells #[.int .i64 u] 3)
      have Gu : w.heap.size ≤ u1.heap.size := (unhide Bu1).size
      have Kau2 := hide ((unhide Kau1).allocOld Zau1 (.cells #[.int .i64 u] 3))
      have Zau2 := lt_alloc Zau1 (.cells #[.int .i64 u] 3)
      have Ktu2 := hide ((unhide Ktu1).allocOld Ztu1 (.cells #[.int .i64 u] 3))
      have Ztu2 := lt_alloc Ztu1 (.cells #[.int .i64 u] 3)
      have Klu2 := hide ((unhide Klu1).allocOld Zlu1 (.cells #[.int .i64 u] 3))
      have Zlu2 := lt_alloc Zlu1 (.cells #[.int .i64 u] 3)
      have Nqlu : u0.heap.size ≠ u1.heap.size := Nat.ne_of_lt Zlu1
      have Nqul := Ne.symm Nqlu
      go_simp
      clear hHeld
      clear Bu1 Kau1 Zau1 Ktu1 Ztu1 Klu1 Zlu1
      generalize (u1.alloc (.cells #[.int .i64 u] 3)) = u2 at *
      have hHeld := hSmk u2 (unhide Kau2)
      refine hK.out _ _ (fun _ => hHeld) ?_
      clear hK K
      try simp only [Act.put, getElem_toArray, getElem_cons_zero, getElem_cons_succ, setIfInBounds_toArray, set_cons_zero, set_cons_succ]
      refine wpTo_ready (rs := [2]) (by kernel_rfl) (by simp) ?_
      refine AllTo.cons (o := _) rfl (fun K hK => ?_) ?_
      ·
       (try simp only [getElem_toArray, getElem_cons_zero, getElem_cons_succ])
       have Bu3 : Hid (Below w.heap.size w (u2.alloc (.cells #[] 3))) := (unhide Bu2).alloc (unhide Bu2).size _
       have Kau3 := hide ((unhide Kau2).allocOld Zau2 (.cells #[] 3))
       have Zau3 := lt_alloc Zau2 (.cells #[] 3)
       have Nqae : w.heap.size ≠ u2.heap.size := Nat.ne_of_lt Zau2
       have Ktu3 := hide ((unhide Ktu2).allocOld Ztu2 (.cells #[] 3))
       have Ztu3 := lt_alloc Ztu2 (.cells #[] 3)
       have Nqte : (w.heap.size + 1) ≠ u2.heap.size := Nat.ne_of_lt Ztu2
       have Klu3 := hide ((unhide Klu2).allocOld Zlu2 (.cells #[] 3))
       have Zlu3 := lt_alloc Zlu2 (.cells #[] 3)
       have Nqle : u0.heap.size ≠ u2.heap.size := Nat.ne_of_lt Zlu2
       have Kuu3 := hide ((unhide Kuu2).allocOld Zuu2 (.cells #[] 3))
       have Zuu3 := lt_alloc Zuu2 (.cells #[] 3)
       have Nque : u1.heap.size ≠ u2.heap.size := Nat.ne_of_lt Zuu2
       have Oeu3 : Hid ((u2.alloc (.cells #[] 3)).ownsRow w.heap.size 3 1 (.slice (some ⟨u2.heap.size, 0, none⟩) (0) 0) (0) ([])) := own_lit0 u2 (unhide Bu2).size
       go_simp
       clear hHeld
       clear Bu2 Kau2 Zau2 Ktu2 Ztu2 Klu2 Zlu2 Kuu2 Zuu2
       generalize (u2.alloc (.cells #[] 3)) = u3 at *
       have hHeld := hSmk u3 (unhide Kau3)
       refine hK.out _ _ (fun _ => hHeld) ?_
       clear hK K
       try simp only [Act.put, getElem_toArray, getElem_cons_zero, getElem_cons_succ, setIfInBounds_toArray, set_cons_zero, set_cons_succ]
       refine wpTo_ready (rs := [4]) (by kernel_rfl) (by simp) ?_
       refine AllTo.cons (o := _) rfl (fun K hK => ?_) ?_
       ·
        skip
        refine step_append_some _ (by rfl) _ _ 31 (by rfl) w.heap.size 3 i0 (.int .i64 0) 1 8 Tryz.underlying31 hi hz0 hz1 hz2 rfl (by omega) (.slice (some ⟨u2.heap.size, 0, none⟩) (0) 0) (0) ([]) (by rfl) (unhide Oeu3) (by simp) ⟨b, off, none⟩ (n) (c) (us.map (Value.int .i64)) (by rfl) (unhide HU).news_len ((unhide HU).mono (unhide Bu3)).news (news_one us) (by unfold maxLen; omega) (by omega) (unhide Bu3).size ?_
        intro ga4 cap4 u4 ho hg hat hlt
        rw [Nat.zero_add] at ho ⊢
        rw [List.nil_append] at ho
        have Bu4 : Hid (Below w.heap.size w u4) := (unhide Bu3).grown hg (unhide Bu3).size (fun b hb => by have := own_base (unhide Oeu3); simp [Value.ownBlock] at hb; omega)
        have Kau4 := hide (Blk.gb (unhide Kau3) hg Zau3 Nqae)
        have Zau4 := Nat.lt_of_lt_of_le Zau3 hg.size
        have Nqaf := ne_new hat Nqae Zau3
        have Ktu4 := hide (Blk.gb (unhide Ktu3) hg Ztu3 Nqte)
        have Ztu4 := Nat.lt_of_lt_of_le Ztu3 hg.size
        have Nqtf := ne_new hat Nqte Ztu3
        have Klu4 := hide (Blk.gb (unhide Klu3) hg Zlu3 Nqle)
        have Zlu4 := Nat.lt_of_lt_of_le Zlu3 hg.size
        have Nqlf := ne_new hat Nqle Zlu3
        have Kuu4 := hide (Blk.gb (unhide Kuu3) hg Zuu3 Nque)
        have Zuu4 := Nat.lt_of_lt_of_le Zuu3 hg.size
        have Nquf := ne_new hat Nque Zuu3
        have Ofu4 : Hid (u4.ownsRow w.heap.size 3 1 (.slice (some ⟨ga4, 0, none⟩) (n) cap4) (n) (us.map (Value.int .i64))) := ho
        clear ho hg hat hlt hHeld
        clear Bu3 Kau3 Zau3 Ktu3 Ztu3 Klu3 Zlu3 Kuu3 Zuu3 Oeu3
        have hHeld := hSmk u4 (unhide Kau4)
        refine hK.out _ _ (fun _ => hHeld) ?_
        clear hK K
        try simp only [Act.put, getElem_toArray, getElem_cons_zero, getElem_cons_succ, setIfInBounds_toArray, set_cons_zero, set_cons_succ]
        refine wpTo_ready (rs := [7]) (by kernel_rfl) (by simp) ?_
        refine AllTo.cons (o := _) rfl (fun K hK => ?_) ?_
        ·
         skip
         refine step_append_some _ (by rfl) _ _ 31 (by rfl) w.heap.size 3 i0 (.int .i64 0) 1 8 Tryz.underlying31 hi hz0 hz1 hz2 rfl (by omega) (.slice (some ⟨ga4, 0, none⟩) (n) cap4) (n) (us.map (Value.int .i64)) (by rfl) (unhide Ofu4) (by simp) ⟨u1.heap.size, 0, none⟩ (1) (1) ([.int .i64 u]) (by rfl) rfl (unhide Kuu4).news (by simp [Value.oneCell']) (by unfold maxLen; omega) (by omega) (unhide Bu4).size ?_
         intro ga5 cap5 u5 ho hg hat hlt
         rw [show us.map (Value.int .i64) ++ [.int .i64 u] = (us ++ [u]).map (Value.int .i64) from by simp] at ho
         have Bu5 : Hid (Below w.heap.size w u5) := (unhide Bu4).grown hg (unhide Bu4).size (fun b hb => by have := own_base (unhide Ofu4); simp [Value.ownBlock] at hb; omega)
         have Kau5 := hide (Blk.gb (unhide Kau4) hg Zau4 Nqaf)
         have Zau5 := Nat.lt_of_lt_of_le Zau4 hg.size
         have Ktu5 := hide (Blk.gb (unhide Ktu4) hg Ztu4 Nqtf)
         have Ztu5 := Nat.lt_of_lt_of_le Ztu4 hg.size
         have Klu5 := hide (Blk.gb (unhide Klu4) hg Zlu4 Nqlf)
         have Zlu5 := Nat.lt_of_lt_of_le Zlu4 hg.size
         have Kuu5 := hide (Blk.gb (unhide Kuu4) hg Zuu4 Nquf)
         have Zuu5 := Nat.lt_of_lt_of_le Zuu4 hg.size
         have Oku5 : Hid (u5.ownsRow w.heap.size 3 1 (.slice (some ⟨ga5, 0, none⟩) (n + 1) cap5) (n + 1) ((us ++ [u]).map (Value.int .i64))) := ho
         clear ho hg hat hlt hHeld
         clear Bu4 Kau4 Zau4 Ktu4 Ztu4 Klu4 Zlu4 Kuu4 Zuu4 Ofu4
         have hHeld := hSmk u5 (unhide Kau5)
         refine hK.out _ _ (fun _ => hHeld) ?_
         clear hK K
         try simp only [Act.put, getElem_toArray, getElem_cons_zero, getElem_cons_succ, setIfInBounds_toArray, set_cons_zero, set_cons_succ]
         refine wpTo_ready (rs := [8]) (by kernel_rfl) (by simp) ?_
         refine AllTo.cons (o := _) rfl (fun K hK => ?_) ?_
         ·
          (try simp only [getElem_toArray, getElem_cons_zero, getElem_cons_succ])
          go_simp
          refine (l7Of_any r h aa na ca (some ⟨ga5, 0, none⟩) (n + 1) cap5 (us ++ [u]) u5 ((unhide HR).mono (unhide Bu5)) ((unhide HA).mono (unhide Bu5)) (Rd.of_owns (unhide Oku5)) (by omega)).mono ?_
          rintro e u6 ⟨rfl, hb⟩
          have Bu6 := hide ((unhide Bu5).trans (hb.mono (unhide Bu5).size))
          have Kau6 := hide (Blk.below hb Zau5 (unhide Kau5))
          have Zau6 := Nat.lt_of_lt_of_le Zau5 hb.size
          have Ktu6 := hide (Blk.below hb Ztu5 (unhide Ktu5))
          have Ztu6 := Nat.lt_of_lt_of_le Ztu5 hb.size
          have Klu6 := hide (Blk.below hb Zlu5 (unhide Klu5))
          have Zlu6 := Nat.lt_of_lt_of_le Zlu5 hb.size
          have Kuu6 := hide (Blk.below hb Zuu5 (unhide Kuu5))
          have Zuu6 := Nat.lt_of_lt_of_le Zuu5 hb.size
          have Oku6 := hide (own_later (unhide Oku5) hb)
          clear hb
          clear Bu5 Kau5 Zau5 Ktu5 Ztu5 Klu5 Zlu5 Kuu5 Zuu5 Oku5
          clear hHeld
          go_wp2_with fail
          have hHeld := hSmk u6 (unhide Kau6)
          refine hK.out _ _ (fun _ => hHeld) ?_
          clear hK K
          try simp only [Act.put, getElem_toArray, getElem_cons_zero, getElem_cons_succ, setIfInBounds_toArray, set_cons_zero, set_cons_succ]
          refine wpTo_ready (rs := [10]) (by kernel_rfl) (by simp) ?_
          refine AllTo.cons (o := _) rfl (fun K hK => ?_) ?_
          ·
           (try simp only [getElem_toArray, getElem_cons_zero, getElem_cons_succ])
           clear Kuu6 Zuu6
           clear Oku6
           clear Kau6 Zau6
           have p0 := ((unhide Klu6) 0 (by simp)).1
           have q0 := ((unhide Klu6) 0 (by simp)).2
           have p1 := ((unhide Klu6) 1 (by simp)).1
           have q1 := ((unhide Klu6) 1 (by simp)).2
           go_simp
           clear p0 q0 p1 q1
           have Bu7 : Hid (Below w.heap.size w ((u6.setCell ⟨u0.heap.size, 0, none⟩ (.int .i64 (volOf (itemsR r) (us ++ [u])))).setCell ⟨u0.heap.size, 1, none⟩ (.int .i64 (gramOf (itemsR r) (us ++ [u]))))) := (((unhide Bu6).setCell Gl _).setCell Gl _)
           have Klu7 : Hid (Blk ((u6.setCell ⟨u0.heap.size, 0, none⟩ (.int .i64 (volOf (itemsR r) (us ++ [u])))).setCell ⟨u0.heap.size, 1, none⟩ (.int .i64 (gramOf (itemsR r) (us ++ [u])))) u0.heap.size [.int .i64 (volOf (itemsR r) (us ++ [u])), .int .i64 (gramOf (itemsR r) (us ++ [u]))]) := Blk.fill2 (unhide Klu6)
           have Zlu7 : u0.heap.size < ((u6.setCell ⟨u0.heap.size, 0, none⟩ (.int .i64 (volOf (itemsR r) (us ++ [u])))).setCell ⟨u0.heap.size, 1, none⟩ (.int .i64 (gramOf (itemsR r) (us ++ [u])))).heap.size := by simpa using Zlu6
           have Ktu7 : Hid (Blk ((u6.setCell ⟨u0.heap.size, 0, none⟩ (.int .i64 (volOf (itemsR r) (us ++ [u])))).setCell ⟨u0.heap.size, 1, none⟩ (.int .i64 (gramOf (itemsR r) (us ++ [u])))) (w.heap.size + 1) [.int .i64 t.id, .int .i64 t.wd, .int .i64 t.ht, .int .i64 t.dp, .int .i64 t.tare, .int .i64 t.gram, .int .i64 t.cost]) := (((unhide Ktu6).other Nqtl).other Nqtl)
           have Ztu7 : (w.heap.size + 1) < ((u6.setCell ⟨u0.heap.size, 0, none⟩ (.int .i64 (volOf (itemsR r) (us ++ [u])))).setCell ⟨u0.heap.size, 1, none⟩ (.int .i64 (gramOf (itemsR r) (us ++ [u])))).heap.size := by simpa using Ztu6
           clear hHeld
           clear Bu6 Ktu6 Ztu6 Klu6 Zlu6
           generalize ((u6.setCell ⟨u0.heap.size, 0, none⟩ (.int .i64 (volOf (itemsR r) (us ++ [u])))).setCell ⟨u0.heap.size, 1, none⟩ (.int .i64 (gramOf (itemsR r) (us ++ [u])))) = u7 at *
           refine hK.out _ _ (fun hn => absurd (by decide) hn) ?_
           clear hK K
           try simp only [Act.put, getElem_toArray, getElem_cons_zero, getElem_cons_succ, setIfInBounds_toArray, set_cons_zero, set_cons_succ]
           refine wpTo_done (by kernel_rfl) ?_ _
           refine NoPanic.normal ?_
           go_wp2_with fail
           go_meet
           case rel => exact ⟨_, rfl, unhide Klu7, unhide Ktu7, unhide Bu7⟩
          exact AllTo.nil
         exact AllTo.nil
        exact AllTo.nil
       exact AllTo.nil
      exact AllTo.nil
     exact AllTo.nil
    exact AllTo.nil
  case rest =>
    clear BwA KawA ZawA KtwA ZtwA
    obtain ⟨gl, rfl, kl, kt, hb⟩ := hcut
    have HB := hide hb
    have l0 := (kl 0 (by simp)).1
    have l1 := (kl 1 (by simp)).1
    have t1 := (kt 1 (by simp)).1
    have t2 := (kt 2 (by simp)).1
    have t3 := (kt 3 (by simp)).1
    have t5 := (kt 5 (by simp)).1
    clear kl kt hb
    simp only [List.getElem?_cons_zero, List.getElem?_cons_succ] at l0 l1 t1 t2 t3 t5
    generalize volOf (itemsR r) (us ++ [u]) = v at *
    generalize gramOf (itemsR r) (us ++ [u]) = g at *
    by_cases h1 : v ≤ vol t.wd t.ht t.dp
    case pos =>
      have h1d : decide (v ≤ vol t.wd t.ht t.dp) = true := decide_eq_true h1
      go_upto_region 2 with fail
      go_quiet ((go_at_call 59; exact Calls.quiet_of_same (specVolume_any _ _ _ _)))
      go_wp2
      go_ret
      exact ⟨ret_boolF (by rw [← unhide HE, h1d, Bool.true_and]), (unhide HB).drewsN nq⟩
    case neg =>
      have h1d : decide (v ≤ vol t.wd t.ht t.dp) = false := decide_eq_false h1
      go_upto_region 2 with fail
      go_quiet ((go_at_call 59; exact Calls.quiet_of_same (specVolume_any _ _ _ _)))
      go_wp2
      go_ret
      exact ⟨ret_boolF (by rw [← unhide HE, h1d, Bool.false_and]), (unhide HB).drewsN nq⟩

theorem l6Units_zero (r : ReqV) (h : ReqH) (w : World) (hr : RdReq w r h) (hz : classI r = 0) :
    Calls Tryz.prog 42 #[reqVal r h] w fun e w' => ∃ g cap, e = .returned (.slice (some ⟨g, 0, none⟩) (unitsR r).length cap) ∧ w'.ownsRow w.heap.size 3 1 (.slice (some ⟨g, 0, none⟩) (unitsR r).length cap) (unitsR r).length (ci (unitsR r)) ∧ Below w.heap.size w w' := by
  have e : unitsR r = unitsL r.items := by rw [unitsR, itemsR_zero hz]
  rw [e]
  exact l6Units_any r h w hr (good_items hz)
end Go.Proofs.YtpoonidoijepaaaGreatDoor
