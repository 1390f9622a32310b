/- The packer puts a unit into the first carton from a place on that has room; a new one, where none has. -/
import Derived.Test.YtphdeojiehigpaaGreatDoorPackSt
import Derived.Test.YtphdeojiehigpaaGreatDoorPackImpl
import Derived.Deep.DeepMust
import Derived.Deep.DeepCutAuto
import Derived.Deep.RegionHeld3
namespace Go.Proofs.YtphdeojiehigpaaGreatDoor
open Go Go.RowKit
set_option linter.unusedVariables false
set_option linter.unusedSimpArgs false

theorem Tryz.infoIntSs : (Tryz.prog.info? 29).map (fun i => (i.zero, i.size, i.bytes)) = some (some (.slice none 0 0), 1, 24) := by kernel_rfl
theorem Tryz.infoInts : (Tryz.prog.info? 3).map (fun i => (i.zero, i.size, i.bytes)) = some (some (.int .i64 0), 1, 8) := by kernel_rfl
theorem Tryz.infoBulk : (Tryz.prog.info? 126).map (fun i => (i.zero, i.size, i.bytes)) = some (some (.agg #[.int .i64 0, .int .i64 0]), 2, 16) := by kernel_rfl
theorem getD_mid {fs : List BulkV} {k : Nat} {q : BulkV} (h : k < fs.length) (e : fs.getD k default = q) : (fs.flatMap BulkV.cells)[k * 2]? = some (.int .i64 q.v) ∧ (fs.flatMap BulkV.cells)[k * 2 + 1]? = some (.int .i64 q.g) := e ▸ bulks_at fs k h
theorem loads_set (xs : List ItemV) (rs : List RowW) (k : Nat) (r2 : RowW) : (rs.map fun r => loadV xs r.l).set k (loadV xs r2.l) = (rs.set k r2).map fun r => loadV xs r.l := by rw [List.map_set]

set_option maxRecDepth 100000 in
set_option maxHeartbeats 4000000 in
theorem putFrom_any (xs : List ItemV) (t : TypeV) (base Bk eb N ecap k u : Nat) (gs : List (List Int)) (w : World) (hok : PkOk xs t base Bk eb N ecap gs w) (hk : k ≤ gs.length) (hu : u < N) (hgd : ∀ q ∈ xs, 1 ≤ q.gram ∧ q.gram ≤ 100000) (htot : tot2 gs ≤ 1048590) (hlen : gs.length ≤ 1048590) :
    Calls Tryz.prog 181 #[.pointer (some ⟨Bk, 0, none⟩), .int .i64 (k : Int), .int .i64 (u : Int)] w fun e w' => ∃ p : Nat, e = .returned (.int .i64 (p : Int)) ∧ FoundAt (roomB xs t) gs (u : Int) k p ∧ PkOk xs t base Bk eb N ecap (putP gs p (u : Int)) w' ∧ Fr base Bk w w' := by
  obtain ⟨i0, hi0, hz0, hz1, hz2⟩ := info_parts Tryz.infoIntSs
  obtain ⟨j0, hj0, hy0, hy1, hy2⟩ := info_parts Tryz.infoInts
  obtain ⟨k0, hk0, hx0, hx1, hx2⟩ := info_parts Tryz.infoBulk
  obtain ⟨ea, oa, oc, fa, fc, n, rs, fs, hea, hP, hrl, hfs, hrg, hsome, hE, heb, hebn⟩ := hok
  obtain rfl := hea (by omega)
  have hgl : gs.length = n := by rw [← hrg, List.length_map, hrl]
  have hfl : fs.length = n := by rw [hfs, List.length_map, hrl]
  have HP := hide hP
  have HFS := hide hfs
  have HRG := hide hrg
  have HSOME := hide hsome
  have HE := hide hE
  have hBlt : Bk < w.heap.size := Nat.lt_of_lt_of_le hP.lt hP.sz
  have Kpw := hide hP.blk
  have HUB := hide (volAt_bd xs (u : Int))
  have HUG := hide (gramAt_bd xs hgd (u : Int))
  have HROWB : Hid (∀ i, i < n → (gs.getD i []).length ≤ 1048590) := fun i hi => Nat.le_trans (tot2_row gs i (by rw [hgl]; exact hi)) htot
  obtain ⟨e0, e1⟩ := hE.2 u hu
  have helt := hE.1
  have he0 : ∀ x, Below w.heap.size w x → x.cell? ⟨eb, u * 2, none⟩ = some (.int .i64 (volAt xs (u : Int))) := fun x hb => (hb.cell (p := ⟨eb, u * 2, none⟩) helt).trans e0
  have he1 : ∀ x, Below w.heap.size w x → x.cell? ⟨eb, u * 2 + 1, none⟩ = some (.int .i64 (gramAt xs (u : Int))) := fun x hb => (hb.cell (p := ⟨eb, u * 2 + 1, none⟩) helt).trans e1
  have hkn : k ≤ n := by rw [← hgl]; exact hk
  have hn9 : n ≤ 1048590 := by rw [← hgl]; exact hlen
  obtain ⟨vU, hvU⟩ : ∃ v, v = volAt xs (u : Int) := ⟨_, rfl⟩
  obtain ⟨gU, hgU⟩ : ∃ v, v = gramAt xs (u : Int) := ⟨_, rfl⟩
  rw [← hvU] at he0 HUB
  rw [← hgU] at he1 HUG
  have HVU := hide hvU
  have HGU := hide hgU
  clear hP hfs hrg hsome hE e0 e1 hvU hgU
  go_enter Tryz.func181, Tryz.ntmps181
  go_wp2
  go_loopw [1] (fun i wr => ∃ p : Nat, k ≤ p ∧ p ≤ n ∧ i = .int .i64 (p : Int) ∧ (∀ j, k ≤ j → j < p → roomB xs t (gs.getD j []) (u : Int) = false) ∧ Below w.heap.size w wr) (fun i _ => n - (intOf i).toNat)
  case atStart => exact ⟨k, Nat.le_refl _, hkn, rfl, fun j h1 h2 => by omega, Below.refl _ _⟩
  case round =>
    obtain ⟨p, hkp, hpn, rfl, hno, hb⟩ := hrel
    have Bwr := hide hb
    have Kpwr := hide (Blk.below hb hBlt Kpw.out)
    have Zpwr : Bk < wr.heap.size := Nat.lt_of_lt_of_le hBlt hb.size
    have HNO := hide hno
    clear hno hb
    by_cases hlt : p < n
    case pos =>
      obtain ⟨gf, rfl⟩ := own_formV HP.out.fill (by omega)
      obtain ⟨go, rfl⟩ := own_formV HP.out.cart.out (by omega)
      have hprl : p < rs.length := by omega
      have hpf : p < fs.length := by omega
      have hfp : fs.getD p default = loadV xs (rs.getD p default).l := by rw [unhide HFS]; exact loads_getD xs rs p hprl
      have HGL : Hid (gs.getD p [] = (rs.getD p default).l) := by rw [Hid, ← unhide HRG]; exact map_l_getD rs p hprl
      have hll : (rs.getD p default).l.length ≤ 1048590 := by have := HROWB.out p hlt; rw [unhide HGL] at this; exact this
      have hfill := HP.out.fill
      rw [hfl] at hfill
      have hgflt := (hfill.lt gf rfl).2
      have hv0 := (hfill.cellAt (p * 2) (by omega)).trans (getD_mid hpf hfp).1
      have hv1 := (hfill.cellAt (p * 2 + 1) (by omega)).trans (getD_mid hpf hfp).2
      have HBV := hide (volOf_bd xs (rs.getD p default).l 1048590 hll)
      have HBG := hide (gramOf_bd xs hgd (rs.getD p default).l 1048590 hll)
      have HROOM : Hid (roomB xs t (gs.getD p []) (u : Int) = roomB xs t (rs.getD p default).l (u : Int)) := by rw [Hid, unhide HGL]
      obtain ⟨L, hL⟩ : ∃ l, l = (rs.getD p default).l := ⟨_, rfl⟩
      rw [← hL] at hfp hll hv0 hv1 HBV HBG HROOM
      have HL := hide hL
      clear hL hfill hfp
      obtain ⟨vL, hvL⟩ : ∃ v, v = volOf xs L := ⟨_, rfl⟩
      obtain ⟨gL, hgL⟩ : ∃ v, v = gramOf xs L := ⟨_, rfl⟩
      have hf0 : ∀ x, Below w.heap.size w x → x.cell? ⟨gf, p * 2, none⟩ = some (.int .i64 vL) := fun x hb => by rw [hb.cell (p := ⟨gf, p * 2, none⟩) hgflt, hv0, hvL]; rfl
      have hf1 : ∀ x, Below w.heap.size w x → x.cell? ⟨gf, p * 2 + 1, none⟩ = some (.int .i64 gL) := fun x hb => by rw [hb.cell (p := ⟨gf, p * 2 + 1, none⟩) hgflt, hv1, hgL]; rfl
      have HBD : Hid (0 ≤ vL ∧ vL ≤ 8388720000000000 ∧ 0 ≤ gL ∧ gL ≤ 104859000000 ∧ 0 ≤ vU ∧ vU ≤ 8000000000 ∧ 0 ≤ gU ∧ gU ≤ 100000) := by have h1 := unhide HBV; have h2 := unhide HBG; have h3 := unhide HUB; have h4 := unhide HUG; rw [← hvL] at h1; rw [← hgL] at h2; exact ⟨by omega, by omega, by omega, by omega, by omega, by omega, by omega, by omega⟩
      obtain ⟨rm, hrm⟩ : ∃ b, b = (decide (vL + vU ≤ vol t.wd t.ht t.dp) && decide (gL + gU ≤ t.gram)) := ⟨_, rfl⟩
      have HRV := hide hrm
      have HRM : Hid (rm = roomB xs t L (u : Int)) := by rw [Hid, hrm, hvL, hgL, unhide HVU, unhide HGU]; rfl
      clear hrm
      clear hv0 hv1 hvL hgL
      go_upto_region 1 with fail
      go_cut [36] (fun v wc => v = .bool (!rm) ∧ Below w.heap.size w wc)
      case first =>
        refine wp_region_noPanic ?_
        have Bu0 : Hid (Below w.heap.size w wr.drew) := Bwr.out.drew
        have Kpu0 : Hid (Blk wr.drew Bk [.slice (some ⟨eb, 0, none⟩) N ecap, .int .i64 (vol t.wd t.ht t.dp), .int .i64 t.gram, .slice (some ⟨go, 0, none⟩) n oc, .slice (some ⟨gf, 0, none⟩) n fc]) := unhide Kpwr
        have Zpu0 : Bk < wr.drew.heap.size := Zpwr
        obtain ⟨S, hSdef⟩ : ∃ S : World → Prop, S = (fun w' => w'.cell? ⟨Bk, 0, none⟩ = some (.slice (some ⟨eb, 0, none⟩) N ecap) ∧ w'.cell? ⟨Bk, 1, none⟩ = some (.int .i64 (vol t.wd t.ht t.dp)) ∧ w'.cell? ⟨Bk, 2, none⟩ = some (.int .i64 t.gram) ∧ w'.cell? ⟨Bk, 3, none⟩ = some (.slice (some ⟨go, 0, none⟩) n oc) ∧ w'.cell? ⟨Bk, 4, none⟩ = some (.slice (some ⟨gf, 0, none⟩) n fc) ∧ w'.cell? ⟨gf, p * 2, none⟩ = some (.int .i64 vL) ∧ w'.cell? ⟨gf, p * 2 + 1, none⟩ = some (.int .i64 gL) ∧ w'.cell? ⟨eb, u * 2, none⟩ = some (.int .i64 vU) ∧ w'.cell? ⟨eb, u * 2 + 1, none⟩ = some (.int .i64 gU)) := ⟨_, rfl⟩
        have hSmk : ∀ wq, Blk wq Bk [.slice (some ⟨eb, 0, none⟩) N ecap, .int .i64 (vol t.wd t.ht t.dp), .int .i64 t.gram, .slice (some ⟨go, 0, none⟩) n oc, .slice (some ⟨gf, 0, none⟩) n fc] → (wq.cell? ⟨gf, p * 2, none⟩ = some (.int .i64 vL)) → (wq.cell? ⟨gf, p * 2 + 1, none⟩ = some (.int .i64 gL)) → (wq.cell? ⟨eb, u * 2, none⟩ = some (.int .i64 vU)) → (wq.cell? ⟨eb, u * 2 + 1, none⟩ = some (.int .i64 gU)) → S wq := fun wq kp p0 p1 p2 p3 => by rw [hSdef]; exact ⟨(kp 0 (by simp)).1, (kp 1 (by simp)).1, (kp 2 (by simp)).1, (kp 3 (by simp)).1, (kp 4 (by simp)).1, p0, p1, p2, p3⟩
        have hSd : ∀ wq, S wq → (fun w' => w'.cell? ⟨Bk, 0, none⟩ = some (.slice (some ⟨eb, 0, none⟩) N ecap) ∧ w'.cell? ⟨Bk, 1, none⟩ = some (.int .i64 (vol t.wd t.ht t.dp)) ∧ w'.cell? ⟨Bk, 2, none⟩ = some (.int .i64 t.gram) ∧ w'.cell? ⟨Bk, 3, none⟩ = some (.slice (some ⟨go, 0, none⟩) n oc) ∧ w'.cell? ⟨Bk, 4, none⟩ = some (.slice (some ⟨gf, 0, none⟩) n fc) ∧ w'.cell? ⟨gf, p * 2, none⟩ = some (.int .i64 vL) ∧ w'.cell? ⟨gf, p * 2 + 1, none⟩ = some (.int .i64 gL) ∧ w'.cell? ⟨eb, u * 2, none⟩ = some (.int .i64 vU) ∧ w'.cell? ⟨eb, u * 2 + 1, none⟩ = some (.int .i64 gU)) wq := fun wq h => by rw [hSdef] at h; exact h
        clear hSdef
        have hHeld : S wr.drew := hSmk wr.drew Kpu0.out (hf0 _ Bu0.out) (hf1 _ Bu0.out) (he0 _ Bu0.out) (he1 _ Bu0.out)
        refine wp_region_to (S := S) (T := []) (by kernel_rfl) hHeld (fun _ => ?_)
        generalize wr.drew = u0 at *
        refine wpTo_ts (i := 0) (v := ?_) rfl (by kernel_rfl) hSd (by rfl) (fun w hSw => ?_) (by assumption) ?_
        rotate_left
        · ((try dsimp only [RqC] at hSw); go_simp <;> with_reducible rfl)
        refine wpTo_ts (i := 1) (v := ?_) rfl (by kernel_rfl) hSd (by rfl) (fun w hSw => ?_) (by assumption) ?_
        rotate_left
        · ((try dsimp only [RqC] at hSw); go_simp <;> with_reducible rfl)
        refine wpTo_ts (i := 2) (v := ?_) rfl (by kernel_rfl) hSd (by rfl) (fun w hSw => ?_) (by assumption) ?_
        rotate_left
        · ((try dsimp only [RqC] at hSw); go_simp <;> with_reducible rfl)
        try simp only [Act.put, zz1, zz2, zz3, zz4, zz5, zz6]
        refine wpTo_ts (i := 3) (v := ?_) rfl (by kernel_rfl) hSd (by rfl) (fun w hSw => ?_) (by assumption) ?_
        rotate_left
        · ((try dsimp only [RqC] at hSw); go_simp <;> with_reducible rfl)
        refine wpTo_ts (i := 4) (v := ?_) rfl (by kernel_rfl) hSd (by rfl) (fun w hSw => ?_) (by assumption) ?_
        rotate_left
        · ((try dsimp only [RqC] at hSw); go_simp <;> with_reducible rfl)
        refine wpTo_ts (i := 5) (v := ?_) rfl (by kernel_rfl) hSd (by rfl) (fun w hSw => ?_) (by assumption) ?_
        rotate_left
        · ((try dsimp only [RqC] at hSw); go_simp <;> with_reducible rfl)
        try simp only [Act.put, zz1, zz2, zz3, zz4, zz5, zz6]
        refine wpTo_ts (i := 6) (v := ?_) rfl (by kernel_rfl) hSd (by rfl) (fun w hSw => ?_) (by assumption) ?_
        rotate_left
        · ((try dsimp only [RqC] at hSw); go_simp <;> with_reducible rfl)
        refine wpTo_ts (i := 7) (v := ?_) rfl (by kernel_rfl) hSd (by rfl) (fun w hSw => ?_) (by assumption) ?_
        rotate_left
        · ((try dsimp only [RqC] at hSw); go_simp <;> with_reducible rfl)
        refine wpTo_ts (i := 8) (v := ?_) rfl (by kernel_rfl) hSd (by rfl) (fun w hSw => ?_) (by assumption) ?_
        rotate_left
        · ((try dsimp only [RqC] at hSw); go_simp <;> with_reducible rfl)
        try simp only [Act.put, zz1, zz2, zz3, zz4, zz5, zz6]
        refine wpTo_ts (i := 9) (v := ?_) rfl (by kernel_rfl) hSd (by rfl) (fun w hSw => ?_) (by assumption) ?_
        rotate_left
        · ((try dsimp only [RqC] at hSw); go_simp <;> with_reducible rfl)
        refine wpTo_ts (i := 10) (v := ?_) rfl (by kernel_rfl) hSd (by rfl) (fun w hSw => ?_) (by assumption) ?_
        rotate_left
        · ((try dsimp only [RqC] at hSw); go_simp <;> with_reducible rfl)
        refine wpTo_ts (i := 11) (v := ?_) rfl (by kernel_rfl) hSd (by rfl) (fun w hSw => ?_) (by assumption) ?_
        rotate_left
        · ((try dsimp only [RqC] at hSw); go_simp <;> with_reducible rfl)
        try simp only [Act.put, zz1, zz2, zz3, zz4, zz5, zz6]
        refine wpTo_ts (i := 12) (v := ?_) rfl (by kernel_rfl) hSd (by rfl) (fun w hSw => ?_) (by assumption) ?_
        rotate_left
        · ((try dsimp only [RqC] at hSw); go_simp <;> with_reducible rfl)
        refine wpTo_ts (i := 13) (v := ?_) rfl (by kernel_rfl) hSd (by rfl) (fun w hSw => ?_) (by assumption) ?_
        rotate_left
        · ((try dsimp only [RqC] at hSw); go_simp <;> with_reducible rfl)
        refine wpTo_ts (i := 14) (v := ?_) rfl (by kernel_rfl) hSd (by rfl) (fun w hSw => ?_) (by assumption) ?_
        rotate_left
        · ((try dsimp only [RqC] at hSw); go_simp <;> with_reducible rfl)
        try simp only [Act.put, zz1, zz2, zz3, zz4, zz5, zz6]
        refine wpTo_ts (i := 15) (v := ?_) rfl (by kernel_rfl) hSd (by rfl) (fun w hSw => ?_) (by assumption) ?_
        rotate_left
        · ((try dsimp only [RqC] at hSw); go_simp <;> with_reducible rfl)
        refine wpTo_ts (i := 16) (v := ?_) rfl (by kernel_rfl) hSd (by rfl) (fun w hSw => ?_) (by assumption) ?_
        rotate_left
        · ((try dsimp only [RqC] at hSw); go_simp <;> with_reducible rfl)
        refine wpTo_ts (i := 17) (v := ?_) rfl (by kernel_rfl) hSd (by rfl) (fun w hSw => ?_) (by assumption) ?_
        rotate_left
        · ((try dsimp only [RqC] at hSw); go_simp <;> with_reducible rfl)
        try simp only [Act.put, zz1, zz2, zz3, zz4, zz5, zz6]
        refine wpTo_ts (i := 18) (v := ?_) rfl (by kernel_rfl) hSd (by rfl) (fun w hSw => ?_) (by assumption) ?_
        rotate_left
        · ((try dsimp only [RqC] at hSw); go_simp <;> with_reducible rfl)
        refine wpTo_ts (i := 19) (v := ?_) rfl (by kernel_rfl) hSd (by rfl) (fun w hSw => ?_) (by assumption) ?_
        rotate_left
        · ((try dsimp only [RqC] at hSw); go_simp <;> with_reducible rfl)
        refine wpTo_ts (i := 20) (v := ?_) rfl (by kernel_rfl) hSd (by rfl) (fun w hSw => ?_) (by assumption) ?_
        rotate_left
        · ((try dsimp only [RqC] at hSw); go_simp <;> with_reducible rfl)
        try simp only [Act.put, zz1, zz2, zz3, zz4, zz5, zz6]
        refine wpTo_ts (i := 21) (v := ?_) rfl (by kernel_rfl) hSd (by rfl) (fun w hSw => ?_) (by assumption) ?_
        rotate_left
        · ((try dsimp only [RqC] at hSw); go_simp <;> with_reducible rfl)
        refine wpTo_ts (i := 23) (v := ?_) rfl (by kernel_rfl) hSd (by rfl) (fun w hSw => ?_) (by assumption) ?_
        rotate_left
        · ((try dsimp only [RqC] at hSw); go_simp <;> with_reducible rfl)
        refine wpTo_ts (i := 24) (v := ?_) rfl (by kernel_rfl) hSd (by rfl) (fun w hSw => ?_) (by assumption) ?_
        rotate_left
        · ((try dsimp only [RqC] at hSw); go_simp <;> with_reducible rfl)
        try simp only [Act.put, zz1, zz2, zz3, zz4, zz5, zz6]
        refine wpTo_ts (i := 25) (v := ?_) rfl (by kernel_rfl) hSd (by rfl) (fun w hSw => ?_) (by assumption) ?_
        rotate_left
        · ((try dsimp only [RqC] at hSw); go_simp <;> with_reducible rfl)
        refine wpTo_ts (i := 26) (v := ?_) rfl (by kernel_rfl) hSd (by rfl) (fun w hSw => ?_) (by assumption) ?_
        rotate_left
        · ((try dsimp only [RqC] at hSw); go_simp <;> with_reducible rfl)
        try simp only [Act.put, zz1, zz2, zz3, zz4, zz5, zz6]
        refine wpTo_ready (rs := [22]) (by kernel_rfl) (by simp) ?_
        refine AllTo.cons (o := _) rfl (fun K hK => ?_) ?_
        ·
         (try simp only [zz1, zz2, zz3])
         go_simp
         refine (with_any vL gL vU gU _ (by have := unhide HBD; omega) (by have := unhide HBD; omega) (by have := unhide HBD; omega) (by have := unhide HBD; omega)).mono ?_
         rintro e u1 ⟨rfl, hb⟩
         have Bu1 := hide (Bu0.out.trans (hb.mono Bu0.out.size))
         have Kpu1 := hide (Blk.below hb Zpu0 Kpu0.out)
         have Zpu1 := Nat.lt_of_lt_of_le Zpu0 hb.size
         clear hb
         clear Bu0 Kpu0 Zpu0
         clear hHeld
         go_wp2_with fail
         have hHeld := hSmk u1 Kpu1.out (hf0 _ Bu1.out) (hf1 _ Bu1.out) (he0 _ Bu1.out) (he1 _ Bu1.out)
         refine hK.out _ _ (fun _ => hHeld) ?_
         clear hK K
         try simp only [Act.put, zz1, zz2, zz3, zz4, zz5, zz6]
         refine wpTo_ready (rs := [27]) (by kernel_rfl) (by simp) ?_
         refine AllTo.cons (o := _) rfl (fun K hK => ?_) ?_
         ·
          (try simp only [zz1, zz2, zz3])
          go_simp
          refine (isIn_any _ _ _ _ _).mono ?_
          rintro e u2 ⟨rfl, hb⟩
          have Bu2 := hide (Bu1.out.trans (hb.mono Bu1.out.size))
          have Kpu2 := hide (Blk.below hb Zpu1 Kpu1.out)
          have Zpu2 := Nat.lt_of_lt_of_le Zpu1 hb.size
          rw [← unhide HRV]
          clear hb
          clear Bu1 Kpu1 Zpu1
          clear hHeld
          go_wp2_with fail
          have hHeld := hSmk u2 Kpu2.out (hf0 _ Bu2.out) (hf1 _ Bu2.out) (he0 _ Bu2.out) (he1 _ Bu2.out)
          refine hK.out _ _ (fun _ => hHeld) ?_
          clear hK K
          try simp only [Act.put, zz1, zz2, zz3, zz4, zz5, zz6]
          refine wpTo_ts (i := 28) (v := ?_) rfl (by kernel_rfl) hSd (by rfl) (fun w hSw => ?_) (by assumption) ?_
          rotate_left
          · ((try dsimp only [RqC] at hSw); go_simp <;> with_reducible rfl)
          refine wpTo_ts (i := 29) (v := ?_) rfl (by kernel_rfl) hSd (by rfl) (fun w hSw => ?_) (by assumption) ?_
          rotate_left
          · ((try dsimp only [RqC] at hSw); go_simp <;> with_reducible rfl)
          try simp only [Act.put, zz1, zz2, zz3, zz4, zz5, zz6]
          refine wpTo_done (by kernel_rfl) ?_ _
          refine NoPanic.normal ?_
          go_wp2_with fail
          go_meet
          case rel => exact ⟨rfl, unhide Bu2⟩
         exact AllTo.nil
        exact AllTo.nil
      case rest =>
        obtain ⟨rfl, hb⟩ := hcut
        have HB := hide hb
        have HPX := hide ((HP.out).later hb)
        clear Bwr Kpwr hb hf0 hf1 he0 he1
        rw [unhide HRM]
        cases hroom : roomB xs t L (u : Int)
        case false =>
          have HN2 : Hid (∀ j, k ≤ j → j < p + 1 → roomB xs t (gs.getD j []) (u : Int) = false) := fun j h1 h2 => by
            by_cases e : j = p
            · subst e; rw [unhide HROOM]; exact hroom
            · exact HNO.out j h1 (by omega)
          go_wp2
          go_roundw
          case rel => exact ⟨p + 1, by omega, by omega, by go_num, unhide HN2, unhide HB⟩
          case measure => simp [intOf]; omega
        case true =>
          have HFO : Hid (FoundAt (roomB xs t) gs (u : Int) k p) := ⟨hkp, by omega, unhide HNO, fun _ => by rw [unhide HROOM]; exact hroom⟩
          have HPG : Hid ((rs.map RowW.l).set p (L ++ [(u : Int)]) = putP gs p (u : Int)) := by rw [Hid, putP_old (by omega), unhide HRG, unhide HGL, unhide HL]
          have HSM : Hid (∀ i, i < rs.length → i ≠ p → ∃ g c, (rs.getD i default).v = .slice (some ⟨g, 0, none⟩) (rs.getD i default).l.length c) := fun i hi _ => HSOME.out i (by omega)
          have HLL : Hid ((rs.getD p default).l.length ≤ 1048590) := by rw [← unhide HL]; exact hll
          have HFX : Hid (Fr base Bk w wc) := Fr.of (HB.out.mono HP.out.sz)
          have HEX := hide (HE.out.later HB.out)
          have hne : ¬ (p : Int) = (n : Int) := by omega
          have c3 : wc.cell? ⟨Bk, 3, none⟩ = some (.slice (some ⟨go, 0, none⟩) n oc) := (HPX.out.blk 3 (by simp)).1
          rw [unhide HL] at HPG
          clear hroom HRM HROOM HBD HBV HBG HRV
          obtain ⟨wx, hwx⟩ : ∃ w8 : World, w8 = wc := ⟨_, rfl⟩
          subst wc
          go_upto_region 6 with fail
          clear c3
          have hfl2 : fs.length = rs.length := by omega
          have HP0 : Hid (Pk base Bk (some ⟨eb, 0, none⟩) N ecap (vol t.wd t.ht t.dp) t.gram (.slice (some ⟨go, 0, none⟩) rs.length oc) (.slice (some ⟨gf, 0, none⟩) fs.length fc) rs fs wx) := by have h9 := unhide HPX; rw [← hfl] at h9; rw [hfl2] at h9 ⊢; exact h9
          have hp := hprl
          have hpf0 := hpf
          clear hpf
          replace hfl := hfl2
          clear hfl2 HPX HB
          have hP := unhide HP0
          have HSZ := hide hP.sz
          have hcell := hP.cart.out.cellAt p (by omega)
          have hrw := hP.cart.row p hp
          have HRB : Hid (∀ b, (rs.getD p default).v.ownBlock = some b → base ≤ b) := fun b hb => (hrw.lt b hb).1
          have HRO : Hid (wx.ownsRow base 3 1 (rs.getD p default).v (rs.getD p default).l.length ((rs.getD p default).l.map (Value.int .i64))) := hrw
          have HGREW := hide (fun (W w3 : World) (g3 cap3 H : Nat) (hP : Pk base Bk (some ⟨eb, 0, none⟩) N ecap (vol t.wd t.ht t.dp) t.gram (.slice (some ⟨go, 0, none⟩) rs.length oc) (.slice (some ⟨gf, 0, none⟩) fs.length fc) rs fs W) => hP.grew (w3 := w3) (g3 := g3) (cap3 := cap3) (H := H) (u := (u : Int)) hp)
          have HBR := hide (fun (W w3 : World) (hP : Pk base Bk (some ⟨eb, 0, none⟩) N ecap (vol t.wd t.ht t.dp) t.gram (.slice (some ⟨go, 0, none⟩) rs.length oc) (.slice (some ⟨gf, 0, none⟩) fs.length fc) rs fs W) => hP.blkRow (w3 := w3) hp)
          have hcell2 : wx.cell? ⟨go, p, none⟩ = some (rs.getD p default).v := by rw [hcell]; simp [hp]
          have HGB : Hid (base ≤ go) := (hP.cart.out.lt go rfl).1
          have hgolt := (hP.cart.out.lt go rfl).2
          have hgflt := (hP.fill.lt gf rfl).2
          have hll : (rs.getD p default).l.length ≤ 1048590 := unhide HLL
          have hfp : fs.getD p default = loadV xs (rs.getD p default).l := by rw [unhide HFS]; exact loads_getD xs rs p hp
          have hpf : p < fs.length := by rw [hfl]; exact hp
          have HBV := hide (volOf_bd xs (rs.getD p default).l 1048590 hll)
          have HBG := hide (gramOf_bd xs hgd (rs.getD p default).l 1048590 hll)
          have HSN1 := hide (volOf_snoc xs (rs.getD p default).l (u : Int))
          have HSN2 := hide (gramOf_snoc xs (rs.getD p default).l (u : Int))
          have hBx : Bk < wx.heap.size := Nat.lt_of_lt_of_le hP.lt hP.sz
          have hb3 : ∀ x, Below wx.heap.size wx x → x.cell? ⟨Bk, 3, none⟩ = some (.slice (some ⟨go, 0, none⟩) rs.length oc) := fun x hb => (hb.cell (p := ⟨Bk, 3, none⟩) hBx).trans (hP.blk 3 (by simp)).1
          have hg3 : ∀ x, Below wx.heap.size wx x → x.cell? ⟨go, p, none⟩ = some (rs.getD p default).v := fun x hb => (hb.cell (p := ⟨go, p, none⟩) hgolt).trans hcell2
          have HP := hide hP
          generalize rs.getD p default = rv at *
          clear hP hcell hrw hcell2
          have Bwx : Hid (Below wx.heap.size wx wx) := Below.refl _ _
          go_upto_region 6 with fail
          go_cut [1] (fun v wc => v = .int .i64 (p : Int) ∧ ∃ g3 cap3, Pk base Bk (some ⟨eb, 0, none⟩) N ecap (vol t.wd t.ht t.dp) t.gram (.slice (some ⟨go, 0, none⟩) rs.length oc) (.slice (some ⟨gf, 0, none⟩) fs.length fc) (rs.set p ⟨.slice (some ⟨g3, 0, none⟩) (rv.l.length + 1) cap3, rv.l ++ [(u : Int)]⟩) fs wc ∧ Fr base Bk wx wc)
          case first =>
            refine wp_region_noPanic ?_
            have Bu0 : Hid (Below wx.heap.size wx wx.drew) := Bwx.out.drew
            obtain ⟨S, hSdef⟩ : ∃ S : World → Prop, S = (fun w' => w'.cell? ⟨Bk, 3, none⟩ = some (.slice (some ⟨go, 0, none⟩) rs.length oc) ∧ w'.cell? ⟨go, p, none⟩ = some rv.v) := ⟨_, rfl⟩
            have hSmk : ∀ wq, (wq.cell? ⟨Bk, 3, none⟩ = some (.slice (some ⟨go, 0, none⟩) rs.length oc)) → (wq.cell? ⟨go, p, none⟩ = some rv.v) → S wq := fun wq p0 p1 => by rw [hSdef]; exact ⟨p0, p1⟩
            have hSd : ∀ wq, S wq → (fun w' => w'.cell? ⟨Bk, 3, none⟩ = some (.slice (some ⟨go, 0, none⟩) rs.length oc) ∧ w'.cell? ⟨go, p, none⟩ = some rv.v) wq := fun wq h => by rw [hSdef] at h; exact h
            clear hSdef
            have hHeld : S wx.drew := hSmk wx.drew (hb3 _ Bu0.out) (hg3 _ Bu0.out)
            refine wp_region_to (S := S) (T := [16]) (by kernel_rfl) hHeld (fun _ => ?_)
            generalize wx.drew = u0 at *
            refine wpTo_ts (i := 0) (v := ?_) rfl (by kernel_rfl) hSd (by rfl) (fun w hSw => ?_) (by assumption) ?_
            rotate_left
            · ((try dsimp only [RqC] at hSw); go_simp <;> with_reducible rfl)
            try simp only [Act.put, zz1, zz2, zz3, zz4, zz5, zz6]
            refine wpTo_ts (i := 1) (v := ?_) rfl (by kernel_rfl) hSd (by rfl) (fun w hSw => ?_) (by assumption) ?_
            rotate_left
            · ((try dsimp only [RqC] at hSw); go_simp <;> with_reducible rfl)
            refine wpTo_ts (i := 2) (v := ?_) rfl (by kernel_rfl) hSd (by rfl) (fun w hSw => ?_) (by assumption) ?_
            rotate_left
            · ((try dsimp only [RqC] at hSw); go_simp <;> with_reducible rfl)
            refine wpTo_ts (i := 3) (v := ?_) rfl (by kernel_rfl) hSd (by rfl) (fun w hSw => ?_) (by assumption) ?_
            rotate_left
            · ((try dsimp only [RqC] at hSw); go_simp <;> with_reducible rfl)
            try simp only [Act.put, zz1, zz2, zz3, zz4, zz5, zz6]
            refine wpTo_ts (i := 4) (v := ?_) rfl (by kernel_rfl) hSd (by rfl) (fun w hSw => ?_) (by assumption) ?_
            rotate_left
            · ((try dsimp only [RqC] at hSw); go_simp <;> with_reducible rfl)
            refine wpTo_ts (i := 5) (v := ?_) rfl (by kernel_rfl) hSd (by rfl) (fun w hSw => ?_) (by assumption) ?_
            rotate_left
            · ((try dsimp only [RqC] at hSw); go_simp <;> with_reducible rfl)
            refine wpTo_ts (i := 6) (v := ?_) rfl (by kernel_rfl) hSd (by rfl) (fun w hSw => ?_) (by assumption) ?_
            rotate_left
            · ((try dsimp only [RqC] at hSw); go_simp <;> with_reducible rfl)
            try simp only [Act.put, zz1, zz2, zz3, zz4, zz5, zz6]
            refine wpTo_ts (i := 7) (v := ?_) rfl (by kernel_rfl) hSd (by rfl) (fun w hSw => ?_) (by assumption) ?_
            rotate_left
            · ((try dsimp only [RqC] at hSw); go_simp <;> with_reducible rfl)
            refine wpTo_ts (i := 8) (v := ?_) rfl (by kernel_rfl) hSd (by rfl) (fun w hSw => ?_) (by assumption) ?_
            rotate_left
            · ((try dsimp only [RqC] at hSw); go_simp <;> with_reducible rfl)
            refine wpTo_ts (i := 9) (v := ?_) rfl (by kernel_rfl) hSd (by rfl) (fun w hSw => ?_) (by assumption) ?_
            rotate_left
            · ((try dsimp only [RqC] at hSw); go_simp <;> with_reducible rfl)
            try simp only [Act.put, zz1, zz2, zz3, zz4, zz5, zz6]
            refine wpTo_ts (i := 10) (v := ?_) rfl (by kernel_rfl) hSd (by rfl) (fun w hSw => ?_) (by assumption) ?_
            rotate_left
            · ((try dsimp only [RqC] at hSw); go_simp <;> with_reducible rfl)
            refine wpTo_ts (i := 11) (v := ?_) rfl (by kernel_rfl) hSd (by rfl) (fun w hSw => ?_) (by assumption) ?_
            rotate_left
            · ((try dsimp only [RqC] at hSw); go_simp <;> with_reducible rfl)
            refine wpTo_ts (i := 12) (v := ?_) rfl (by kernel_rfl) hSd (by rfl) (fun w hSw => ?_) (by assumption) ?_
            rotate_left
            · ((try dsimp only [RqC] at hSw); go_simp <;> with_reducible rfl)
            try simp only [Act.put, zz1, zz2, zz3, zz4, zz5, zz6]
            refine wpTo_ready (rs := [13]) (by kernel_rfl) (by simp) ?_
            refine AllTo.cons (o := _) rfl (fun K hK => ?_) ?_
            ·
             (try simp only [zz1, zz2, zz3])
             go_simp
             clear hHeld
             generalize hW : (u0.alloc (.cells #[.int .i64 (u : Int)] 3)) = u1 at *
             obtain ⟨hb, Kuu1, Zuu1⟩ := en1 hW
             have hb := unhide hb
             have Bu1 := hide (Bu0.out.trans (hb.mono Bu0.out.size))
             have Gu : wx.heap.size ≤ u0.heap.size := Bu0.out.size
             clear hb hW
             clear Bu0 
             have hHeld := hSmk u1 (hb3 _ Bu1.out) (hg3 _ Bu1.out)
             refine hK.out _ _ (fun _ => hHeld) ?_
             clear hK K
             try simp only [Act.put, zz1, zz2, zz3, zz4, zz5, zz6]
             refine wpTo_ready (rs := [14]) (by kernel_rfl) (by simp) ?_
             refine AllTo.cons (o := _) rfl (fun K hK => ?_) ?_
             ·
              skip
              refine step_append_lies _ (by rfl) _ _ 29 (by rfl) base 3 j0 (.int .i64 0) 1 8 Tryz.underlying29 hj0 hy0 hy1 hy2 rfl (by omega) rv.v rv.l.length (rv.l.map (Value.int .i64)) (by rfl) (own_laterV HRO.out Bu1.out) ⟨u0.heap.size, 0, none⟩ 1 1 [.int .i64 (u : Int)] (by rfl) rfl Kuu1.out.news (by simp [Value.oneCell']) (by omega) (by unfold maxLen; omega) (by omega) (by have := Bu1.out.size; have := unhide HSZ; omega) u1.heap.size rfl ?_
              intro g3 cap3 u2 ho hg hat hlt
              obtain ⟨c4, f4, hP4⟩ := HGREW.out u1 u2 g3 cap3 u1.heap.size (HP.out.later Bu1.out) ho hg hat rfl
              have c3 := (HBR.out u1 u2 (HP.out.later Bu1.out) hg 3 (by simp)).1
              have HP4 := hide hP4
              have HFR := hide (Fr.grown (base := base) (Bk := Bk) (Fr.of (Bu1.out.mono HSZ.out)) hg (by have := Bu1.out.size; have := unhide HSZ; omega) HRB.out)
              clear ho hg hat hlt hP4 hHeld
              have hHeld := hSmk u2 c3 c4
              refine hK.out _ _ (fun _ => hHeld) ?_
              clear hK K
              try simp only [Act.put, zz1, zz2, zz3, zz4, zz5, zz6]
              refine wpTo_ts (i := 15) (v := ?_) rfl (by kernel_rfl) hSd (by rfl) (fun w hSw => ?_) (by assumption) ?_
              rotate_left
              · ((try dsimp only [RqC] at hSw); go_simp <;> with_reducible rfl)
              try simp only [Act.put, zz1, zz2, zz3, zz4, zz5, zz6]
              refine wpTo_ready (rs := [16]) (by kernel_rfl) (by simp) ?_
              refine AllTo.cons (o := _) rfl (fun K hK => ?_) ?_
              ·
               (try simp only [zz1, zz2, zz3])
               go_simp
               refine hK.out _ _ (fun hn => absurd (by decide) hn) ?_
               clear hK K
               try simp only [Act.put, zz1, zz2, zz3, zz4, zz5, zz6]
               refine wpTo_done (by kernel_rfl) ?_ _
               refine NoPanic.normal ?_
               go_wp2_with fail
               go_meet
               case rel => exact ⟨rfl, g3, cap3, unhide HP4, HFR.out.set (p := ⟨go, p, none⟩) (.inr HGB.out) _⟩
              exact AllTo.nil
             exact AllTo.nil
            exact AllTo.nil
          case rest =>
            obtain ⟨rfl, g3, cap3, hP, hF⟩ := hcut
            have HF6 := hide (HFX.out.trans hF)
            have HE7 := hide (HEX.out.fr hF heb hebn)
            clear Bwx hF hb3 hg3 HGREW HBR HRO HP HP0
            have hfill := hP.fill
            have hgflt2 := (hfill.lt gf rfl).2
            have HGF : Hid (base ≤ gf) := (hfill.lt gf rfl).1
            have hv0 := (hfill.cellAt (p * 2) (by omega)).trans (getD_mid hpf hfp).1
            have hv1 := (hfill.cellAt (p * 2 + 1) (by omega)).trans (getD_mid hpf hfp).2
            have hz0 := hfill.frozenAt (p * 2)
            have hz1 := hfill.frozenAt (p * 2 + 1)
            obtain ⟨wx, hwx⟩ : ∃ w8 : World, w8 = wc := ⟨_, rfl⟩
            subst wc
            have HSZ := hide hP.sz
            have hBx2 : Bk < wx.heap.size := Nat.lt_of_lt_of_le hP.lt hP.sz
            obtain ⟨vL, hvL⟩ : ∃ v, v = volOf xs rv.l := ⟨_, rfl⟩
            obtain ⟨gL, hgL⟩ : ∃ v, v = gramOf xs rv.l := ⟨_, rfl⟩
            have hv0' : wx.cell? ⟨gf, p * 2, none⟩ = some (.int .i64 vL) := by rw [hv0, hvL]; rfl
            have hv1' : wx.cell? ⟨gf, p * 2 + 1, none⟩ = some (.int .i64 gL) := by rw [hv1, hgL]; rfl
            have hf0 : ∀ x, Below wx.heap.size wx x → x.cell? ⟨gf, p * 2, none⟩ = some (.int .i64 vL) := fun x hb => (hb.cell (p := ⟨gf, p * 2, none⟩) hgflt2).trans hv0'
            have hf1 : ∀ x, Below wx.heap.size wx x → x.cell? ⟨gf, p * 2 + 1, none⟩ = some (.int .i64 gL) := fun x hb => (hb.cell (p := ⟨gf, p * 2 + 1, none⟩) hgflt2).trans hv1'
            have hq0 : ∀ x, Below wx.heap.size wx x → x.frozen? ⟨gf, p * 2, none⟩ = false := fun x hb => (hb.frozen (p := ⟨gf, p * 2, none⟩) hgflt2).trans hz0
            have hq1 : ∀ x, Below wx.heap.size wx x → x.frozen? ⟨gf, p * 2 + 1, none⟩ = false := fun x hb => (hb.frozen (p := ⟨gf, p * 2 + 1, none⟩) hgflt2).trans hz1
            obtain ⟨e0, e1⟩ := HE7.out.2 u hu
            rw [← unhide HVU] at e0
            rw [← unhide HGU] at e1
            have helt7 := HE7.out.1
            have he0 : ∀ x, Below wx.heap.size wx x → x.cell? ⟨eb, u * 2, none⟩ = some (.int .i64 vU) := fun x hb => (hb.cell (p := ⟨eb, u * 2, none⟩) helt7).trans e0
            have he1 : ∀ x, Below wx.heap.size wx x → x.cell? ⟨eb, u * 2 + 1, none⟩ = some (.int .i64 gU) := fun x hb => (hb.cell (p := ⟨eb, u * 2 + 1, none⟩) helt7).trans e1
            have HBD : Hid (0 ≤ vL ∧ vL ≤ 8388720000000000 ∧ 0 ≤ gL ∧ gL ≤ 104859000000 ∧ 0 ≤ vU ∧ vU ≤ 8000000000 ∧ 0 ≤ gU ∧ gU ≤ 100000) := by have h1 := unhide HBV; have h2 := unhide HBG; have h3 := unhide HUB; have h4 := unhide HUG; rw [← hvL] at h1; rw [← hgL] at h2; exact ⟨by omega, by omega, by omega, by omega, by omega, by omega, by omega, by omega⟩
            have HPUT : Hid (∀ W, Below wx.heap.size wx W → Pk base Bk (some ⟨eb, 0, none⟩) N ecap (vol t.wd t.ht t.dp) t.gram (.slice (some ⟨go, 0, none⟩) rs.length oc) (.slice (some ⟨gf, 0, none⟩) fs.length fc) (rs.set p ⟨.slice (some ⟨g3, 0, none⟩) (rv.l.length + 1) cap3, rv.l ++ [(u : Int)]⟩) (fs.set p ⟨vL + vU, gL + gU⟩) ((W.setCell ⟨gf, p * 2, none⟩ (.int .i64 (vL + vU))).setCell ⟨gf, p * 2 + 1, none⟩ (.int .i64 (gL + gU)))) := fun W hb => (hP.later hb).put hpf
            have HLD : Hid ((⟨vL + vU, gL + gU⟩ : BulkV) = loadV xs (rv.l ++ [(u : Int)])) := by rw [Hid, loadV, unhide HSN1, unhide HSN2, hvL, hgL, unhide HVU, unhide HGU]
            have Kpwx := hide hP.blk
            have Zpwx := hBx2
            have Bwx : Hid (Below wx.heap.size wx wx) := Below.refl _ _
            have HGB := HGF
            clear hP hfill hv0 hv1 hz0 hz1 hv0' hv1' e0 e1 hvL hgL
            go_upto_region 7 with fail
            go_cut [1] (fun v wc => v = .int .i64 (p : Int) ∧ Pk base Bk (some ⟨eb, 0, none⟩) N ecap (vol t.wd t.ht t.dp) t.gram (.slice (some ⟨go, 0, none⟩) rs.length oc) (.slice (some ⟨gf, 0, none⟩) fs.length fc) (rs.set p ⟨.slice (some ⟨g3, 0, none⟩) (rv.l.length + 1) cap3, rv.l ++ [(u : Int)]⟩) (fs.set p ⟨vL + vU, gL + gU⟩) wc ∧ Fr base Bk wx wc)
            case first =>
              refine wp_region_noPanic ?_
              have Bu0 : Hid (Below wx.heap.size wx wx.drew) := Bwx.out.drew
              have Kpu0 : Hid (Blk wx.drew Bk [.slice (some ⟨eb, 0, none⟩) N ecap, .int .i64 (vol t.wd t.ht t.dp), .int .i64 t.gram, .slice (some ⟨go, 0, none⟩) rs.length oc, .slice (some ⟨gf, 0, none⟩) fs.length fc]) := unhide Kpwx
              have Zpu0 : Bk < wx.drew.heap.size := Zpwx
              obtain ⟨S, hSdef⟩ : ∃ S : World → Prop, S = (fun w' => w'.cell? ⟨Bk, 0, none⟩ = some (.slice (some ⟨eb, 0, none⟩) N ecap) ∧ w'.cell? ⟨Bk, 4, none⟩ = some (.slice (some ⟨gf, 0, none⟩) fs.length fc) ∧ w'.cell? ⟨gf, p * 2, none⟩ = some (.int .i64 vL) ∧ w'.cell? ⟨gf, p * 2 + 1, none⟩ = some (.int .i64 gL) ∧ w'.cell? ⟨eb, u * 2, none⟩ = some (.int .i64 vU) ∧ w'.cell? ⟨eb, u * 2 + 1, none⟩ = some (.int .i64 gU)) := ⟨_, rfl⟩
              have hSmk : ∀ wq, Blk wq Bk [.slice (some ⟨eb, 0, none⟩) N ecap, .int .i64 (vol t.wd t.ht t.dp), .int .i64 t.gram, .slice (some ⟨go, 0, none⟩) rs.length oc, .slice (some ⟨gf, 0, none⟩) fs.length fc] → (wq.cell? ⟨gf, p * 2, none⟩ = some (.int .i64 vL)) → (wq.cell? ⟨gf, p * 2 + 1, none⟩ = some (.int .i64 gL)) → (wq.cell? ⟨eb, u * 2, none⟩ = some (.int .i64 vU)) → (wq.cell? ⟨eb, u * 2 + 1, none⟩ = some (.int .i64 gU)) → S wq := fun wq kp p0 p1 p2 p3 => by rw [hSdef]; exact ⟨(kp 0 (by simp)).1, (kp 4 (by simp)).1, p0, p1, p2, p3⟩
              have hSd : ∀ wq, S wq → (fun w' => w'.cell? ⟨Bk, 0, none⟩ = some (.slice (some ⟨eb, 0, none⟩) N ecap) ∧ w'.cell? ⟨Bk, 4, none⟩ = some (.slice (some ⟨gf, 0, none⟩) fs.length fc) ∧ w'.cell? ⟨gf, p * 2, none⟩ = some (.int .i64 vL) ∧ w'.cell? ⟨gf, p * 2 + 1, none⟩ = some (.int .i64 gL) ∧ w'.cell? ⟨eb, u * 2, none⟩ = some (.int .i64 vU) ∧ w'.cell? ⟨eb, u * 2 + 1, none⟩ = some (.int .i64 gU)) wq := fun wq h => by rw [hSdef] at h; exact h
              clear hSdef
              have hHeld : S wx.drew := hSmk wx.drew Kpu0.out (hf0 _ Bu0.out) (hf1 _ Bu0.out) (he0 _ Bu0.out) (he1 _ Bu0.out)
              refine wp_region_to (S := S) (T := [21]) (by kernel_rfl) hHeld (fun _ => ?_)
              generalize wx.drew = u0 at *
              refine wpTo_ts (i := 0) (v := ?_) rfl (by kernel_rfl) hSd (by rfl) (fun w hSw => ?_) (by assumption) ?_
              rotate_left
              · ((try dsimp only [RqC] at hSw); go_simp <;> with_reducible rfl)
              try simp only [Act.put, zz1, zz2, zz3, zz4, zz5, zz6]
              refine wpTo_ts (i := 1) (v := ?_) rfl (by kernel_rfl) hSd (by rfl) (fun w hSw => ?_) (by assumption) ?_
              rotate_left
              · ((try dsimp only [RqC] at hSw); go_simp <;> with_reducible rfl)
              refine wpTo_ts (i := 2) (v := ?_) rfl (by kernel_rfl) hSd (by rfl) (fun w hSw => ?_) (by assumption) ?_
              rotate_left
              · ((try dsimp only [RqC] at hSw); go_simp <;> with_reducible rfl)
              refine wpTo_ts (i := 3) (v := ?_) rfl (by kernel_rfl) hSd (by rfl) (fun w hSw => ?_) (by assumption) ?_
              rotate_left
              · ((try dsimp only [RqC] at hSw); go_simp <;> with_reducible rfl)
              try simp only [Act.put, zz1, zz2, zz3, zz4, zz5, zz6]
              refine wpTo_ts (i := 4) (v := ?_) rfl (by kernel_rfl) hSd (by rfl) (fun w hSw => ?_) (by assumption) ?_
              rotate_left
              · ((try dsimp only [RqC] at hSw); go_simp <;> with_reducible rfl)
              refine wpTo_ts (i := 5) (v := ?_) rfl (by kernel_rfl) hSd (by rfl) (fun w hSw => ?_) (by assumption) ?_
              rotate_left
              · ((try dsimp only [RqC] at hSw); go_simp <;> with_reducible rfl)
              refine wpTo_ts (i := 6) (v := ?_) rfl (by kernel_rfl) hSd (by rfl) (fun w hSw => ?_) (by assumption) ?_
              rotate_left
              · ((try dsimp only [RqC] at hSw); go_simp <;> with_reducible rfl)
              try simp only [Act.put, zz1, zz2, zz3, zz4, zz5, zz6]
              refine wpTo_ts (i := 7) (v := ?_) rfl (by kernel_rfl) hSd (by rfl) (fun w hSw => ?_) (by assumption) ?_
              rotate_left
              · ((try dsimp only [RqC] at hSw); go_simp <;> with_reducible rfl)
              refine wpTo_ts (i := 8) (v := ?_) rfl (by kernel_rfl) hSd (by rfl) (fun w hSw => ?_) (by assumption) ?_
              rotate_left
              · ((try dsimp only [RqC] at hSw); go_simp <;> with_reducible rfl)
              refine wpTo_ts (i := 9) (v := ?_) rfl (by kernel_rfl) hSd (by rfl) (fun w hSw => ?_) (by assumption) ?_
              rotate_left
              · ((try dsimp only [RqC] at hSw); go_simp <;> with_reducible rfl)
              try simp only [Act.put, zz1, zz2, zz3, zz4, zz5, zz6]
              refine wpTo_ts (i := 10) (v := ?_) rfl (by kernel_rfl) hSd (by rfl) (fun w hSw => ?_) (by assumption) ?_
              rotate_left
              · ((try dsimp only [RqC] at hSw); go_simp <;> with_reducible rfl)
              refine wpTo_ts (i := 11) (v := ?_) rfl (by kernel_rfl) hSd (by rfl) (fun w hSw => ?_) (by assumption) ?_
              rotate_left
              · ((try dsimp only [RqC] at hSw); go_simp <;> with_reducible rfl)
              refine wpTo_ts (i := 12) (v := ?_) rfl (by kernel_rfl) hSd (by rfl) (fun w hSw => ?_) (by assumption) ?_
              rotate_left
              · ((try dsimp only [RqC] at hSw); go_simp <;> with_reducible rfl)
              try simp only [Act.put, zz1, zz2, zz3, zz4, zz5, zz6]
              refine wpTo_ts (i := 13) (v := ?_) rfl (by kernel_rfl) hSd (by rfl) (fun w hSw => ?_) (by assumption) ?_
              rotate_left
              · ((try dsimp only [RqC] at hSw); go_simp <;> with_reducible rfl)
              refine wpTo_ts (i := 14) (v := ?_) rfl (by kernel_rfl) hSd (by rfl) (fun w hSw => ?_) (by assumption) ?_
              rotate_left
              · ((try dsimp only [RqC] at hSw); go_simp <;> with_reducible rfl)
              refine wpTo_ts (i := 15) (v := ?_) rfl (by kernel_rfl) hSd (by rfl) (fun w hSw => ?_) (by assumption) ?_
              rotate_left
              · ((try dsimp only [RqC] at hSw); go_simp <;> with_reducible rfl)
              try simp only [Act.put, zz1, zz2, zz3, zz4, zz5, zz6]
              refine wpTo_ts (i := 16) (v := ?_) rfl (by kernel_rfl) hSd (by rfl) (fun w hSw => ?_) (by assumption) ?_
              rotate_left
              · ((try dsimp only [RqC] at hSw); go_simp <;> with_reducible rfl)
              refine wpTo_ts (i := 17) (v := ?_) rfl (by kernel_rfl) hSd (by rfl) (fun w hSw => ?_) (by assumption) ?_
              rotate_left
              · ((try dsimp only [RqC] at hSw); go_simp <;> with_reducible rfl)
              refine wpTo_ts (i := 18) (v := ?_) rfl (by kernel_rfl) hSd (by rfl) (fun w hSw => ?_) (by assumption) ?_
              rotate_left
              · ((try dsimp only [RqC] at hSw); go_simp <;> with_reducible rfl)
              try simp only [Act.put, zz1, zz2, zz3, zz4, zz5, zz6]
              refine wpTo_ready (rs := [19]) (by kernel_rfl) (by simp) ?_
              refine AllTo.cons (o := _) rfl (fun K hK => ?_) ?_
              ·
               (try simp only [zz1, zz2, zz3])
               go_simp
               refine (with_any vL gL vU gU _ (by have := unhide HBD; omega) (by have := unhide HBD; omega) (by have := unhide HBD; omega) (by have := unhide HBD; omega)).mono ?_
               rintro e u1 ⟨rfl, hb⟩
               have Bu1 := hide (Bu0.out.trans (hb.mono Bu0.out.size))
               have Kpu1 := hide (Blk.below hb Zpu0 Kpu0.out)
               have Zpu1 := Nat.lt_of_lt_of_le Zpu0 hb.size
               clear hb
               clear Bu0 Kpu0 Zpu0
               clear hHeld
               go_wp2_with fail
               have hHeld := hSmk u1 Kpu1.out (hf0 _ Bu1.out) (hf1 _ Bu1.out) (he0 _ Bu1.out) (he1 _ Bu1.out)
               refine hK.out _ _ (fun _ => hHeld) ?_
               clear hK K
               try simp only [Act.put, zz1, zz2, zz3, zz4, zz5, zz6]
               refine wpTo_ts (i := 20) (v := ?_) rfl (by kernel_rfl) hSd (by rfl) (fun w hSw => ?_) (by assumption) ?_
               rotate_left
               · ((try dsimp only [RqC] at hSw); go_simp <;> with_reducible rfl)
               try simp only [Act.put, zz1, zz2, zz3, zz4, zz5, zz6]
               refine wpTo_ready (rs := [21]) (by kernel_rfl) (by simp) ?_
               refine AllTo.cons (o := _) rfl (fun K hK => ?_) ?_
               ·
                (try simp only [zz1, zz2, zz3])
                have p0 := hf0 _ Bu1.out
                have p1 := hf1 _ Bu1.out
                have q0 := hq0 _ Bu1.out
                have q1 := hq1 _ Bu1.out
                go_simp
                refine hK.out _ _ (fun hn => absurd (by decide) hn) ?_
                clear hK K p0 p1 q0 q1
                try simp only [Act.put, zz1, zz2, zz3, zz4, zz5, zz6]
                refine wpTo_done (by kernel_rfl) ?_ _
                refine NoPanic.normal ?_
                go_wp2_with fail
                go_meet
                case rel => exact ⟨rfl, HPUT.out _ Bu1.out, ((Fr.of (Bu1.out.mono HSZ.out)).set (p := ⟨gf, p * 2, none⟩) (.inr HGB.out) _).set (p := ⟨gf, p * 2 + 1, none⟩) (.inr HGB.out) _⟩
               exact AllTo.nil
              exact AllTo.nil
            case rest =>
              obtain ⟨rfl, hP, hF⟩ := hcut
              have HP9 := hide hP
              have HF9 := hide (HF6.out.trans hF)
              have HE9 := hide (HE7.out.fr hF heb hebn)
              clear hP hF hf0 hf1 hq0 hq1 he0 he1 Kpwx Bwx HPUT
              go_wp2_with fail
              go_ret
              refine ⟨p, rfl, unhide HFO, ⟨some ⟨eb, 0, none⟩, some ⟨go, 0, none⟩, oc, some ⟨gf, 0, none⟩, fc, rs.length, rs.set p ⟨.slice (some ⟨g3, 0, none⟩) (rv.l.length + 1) cap3, rv.l ++ [(u : Int)]⟩, fs.set p ⟨vL + vU, gL + gU⟩, fun _ => rfl, ?_, by rw [List.length_set], by rw [unhide HLD, unhide HFS]; exact loads_set xs rs p ⟨.slice (some ⟨g3, 0, none⟩) (rv.l.length + 1) cap3, rv.l ++ [(u : Int)]⟩, by rw [List.map_set]; exact unhide HPG, ?_, unhide HE9, heb, hebn⟩, unhide HF9⟩
              · have h9 := unhide HP9; rw [hfl] at h9; exact h9
              · intro i hi
                by_cases e : i = p
                · subst e
                  rw [getD_put_eq hp]
                  exact ⟨g3, cap3, by rw [List.length_append]; rfl⟩
                · rw [getD_put_ne (fun x => e x.symm)]
                  exact HSM.out i hi e
    case neg =>
      obtain rfl : n = p := by omega
      have HFO : Hid (FoundAt (roomB xs t) gs (u : Int) k n) := ⟨hkp, by omega, unhide HNO, fun h => by omega⟩
      go_upto_region 1 with fail
      go_cut [36] (fun v wc => v = .bool false ∧ Below w.heap.size w wc)
      case first =>
        refine wp_region_noPanic ?_
        have Bu0 : Hid (Below w.heap.size w wr.drew) := Bwr.out.drew
        have Kpu0 : Hid (Blk wr.drew Bk [.slice (some ⟨eb, 0, none⟩) N ecap, .int .i64 (vol t.wd t.ht t.dp), .int .i64 t.gram, .slice oa n oc, .slice fa n fc]) := unhide Kpwr
        have Zpu0 : Bk < wr.drew.heap.size := Zpwr
        obtain ⟨S, hSdef⟩ : ∃ S : World → Prop, S = (fun w' => w'.cell? ⟨Bk, 3, none⟩ = some (.slice oa n oc)) := ⟨_, rfl⟩
        have hSmk : ∀ wq, Blk wq Bk [.slice (some ⟨eb, 0, none⟩) N ecap, .int .i64 (vol t.wd t.ht t.dp), .int .i64 t.gram, .slice oa n oc, .slice fa n fc] → S wq := fun wq kp => by rw [hSdef]; exact (kp 3 (by simp)).1
        have hSd : ∀ wq, S wq → (fun w' => w'.cell? ⟨Bk, 3, none⟩ = some (.slice oa n oc)) wq := fun wq h => by rw [hSdef] at h; exact h
        clear hSdef
        have hHeld : S wr.drew := hSmk wr.drew Kpu0.out
        refine wp_region_to (S := S) (T := []) (by kernel_rfl) hHeld (fun _ => ?_)
        generalize wr.drew = u0 at *
        refine wpTo_ts (i := 0) (v := ?_) rfl (by kernel_rfl) hSd (by rfl) (fun w hSw => ?_) (by assumption) ?_
        rotate_left
        · ((try dsimp only [RqC] at hSw); go_simp <;> with_reducible rfl)
        try simp only [Act.put, zz1, zz2, zz3, zz4, zz5, zz6]
        refine wpTo_ts (i := 1) (v := ?_) rfl (by kernel_rfl) hSd (by rfl) (fun w hSw => ?_) (by assumption) ?_
        rotate_left
        · ((try dsimp only [RqC] at hSw); go_simp <;> with_reducible rfl)
        refine wpTo_ts (i := 2) (v := ?_) rfl (by kernel_rfl) hSd (by rfl) (fun w hSw => ?_) (by assumption) ?_
        rotate_left
        · ((try dsimp only [RqC] at hSw); go_simp <;> with_reducible rfl)
        refine wpTo_ts (i := 3) (v := ?_) rfl (by kernel_rfl) hSd (by rfl) (fun w hSw => ?_) (by assumption) ?_
        rotate_left
        · ((try dsimp only [RqC] at hSw); go_simp <;> with_reducible rfl)
        try simp only [Act.put, zz1, zz2, zz3, zz4, zz5, zz6]
        refine wpTo_ts (i := 4) (v := ?_) rfl (by kernel_rfl) hSd (by rfl) (fun w hSw => ?_) (by assumption) ?_
        rotate_left
        · ((try dsimp only [RqC] at hSw); go_simp <;> with_reducible rfl)
        refine wpTo_ts (i := 5) (v := ?_) rfl (by kernel_rfl) hSd (by rfl) (fun w hSw => ?_) (by assumption) ?_
        rotate_left
        · ((try dsimp only [RqC] at hSw); go_simp <;> with_reducible rfl)
        refine wpTo_ts (i := 6) (v := ?_) rfl (by kernel_rfl) hSd (by rfl) (fun w hSw => ?_) (by assumption) ?_
        rotate_left
        · ((try dsimp only [RqC] at hSw); go_simp <;> with_reducible rfl)
        try simp only [Act.put, zz1, zz2, zz3, zz4, zz5, zz6]
        refine wpTo_ts (i := 7) (v := ?_) rfl (by kernel_rfl) hSd (by rfl) (fun w hSw => ?_) (by assumption) ?_
        rotate_left
        · ((try dsimp only [RqC] at hSw); go_simp <;> with_reducible rfl)
        try simp only [Act.put, zz1, zz2, zz3, zz4, zz5, zz6]
        refine wpTo_tk (i := 8) (v := undef) rfl (by kernel_rfl) (Or.inr ⟨by rfl, rfl⟩) (by assumption) ?_
        try simp only [Act.put, zz1, zz2, zz3, zz4, zz5, zz6]
        refine wpTo_tk (i := 9) (v := undef) rfl (by kernel_rfl) (Or.inr ⟨by rfl, rfl⟩) (by assumption) ?_
        try simp only [Act.put, zz1, zz2, zz3, zz4, zz5, zz6]
        refine wpTo_tk (i := 10) (v := undef) rfl (by kernel_rfl) (Or.inr ⟨by rfl, rfl⟩) (by assumption) ?_
        try simp only [Act.put, zz1, zz2, zz3, zz4, zz5, zz6]
        refine wpTo_tk (i := 11) (v := undef) rfl (by kernel_rfl) (Or.inr ⟨by rfl, rfl⟩) (by assumption) ?_
        try simp only [Act.put, zz1, zz2, zz3, zz4, zz5, zz6]
        refine wpTo_tk (i := 12) (v := undef) rfl (by kernel_rfl) (Or.inr ⟨by rfl, rfl⟩) (by assumption) ?_
        try simp only [Act.put, zz1, zz2, zz3, zz4, zz5, zz6]
        refine wpTo_tk (i := 13) (v := undef) rfl (by kernel_rfl) (Or.inr ⟨by rfl, rfl⟩) (by assumption) ?_
        try simp only [Act.put, zz1, zz2, zz3, zz4, zz5, zz6]
        refine wpTo_tk (i := 14) (v := undef) rfl (by kernel_rfl) (Or.inr ⟨by rfl, rfl⟩) (by assumption) ?_
        try simp only [Act.put, zz1, zz2, zz3, zz4, zz5, zz6]
        refine wpTo_tk (i := 15) (v := undef) rfl (by kernel_rfl) (Or.inr ⟨by rfl, rfl⟩) (by assumption) ?_
        try simp only [Act.put, zz1, zz2, zz3, zz4, zz5, zz6]
        refine wpTo_tk (i := 16) (v := undef) rfl (by kernel_rfl) (Or.inr ⟨by rfl, rfl⟩) (by assumption) ?_
        try simp only [Act.put, zz1, zz2, zz3, zz4, zz5, zz6]
        refine wpTo_tk (i := 17) (v := undef) rfl (by kernel_rfl) (Or.inr ⟨by rfl, rfl⟩) (by assumption) ?_
        try simp only [Act.put, zz1, zz2, zz3, zz4, zz5, zz6]
        refine wpTo_tk (i := 18) (v := undef) rfl (by kernel_rfl) (Or.inr ⟨by rfl, rfl⟩) (by assumption) ?_
        try simp only [Act.put, zz1, zz2, zz3, zz4, zz5, zz6]
        refine wpTo_tk (i := 19) (v := undef) rfl (by kernel_rfl) (Or.inr ⟨by rfl, rfl⟩) (by assumption) ?_
        try simp only [Act.put, zz1, zz2, zz3, zz4, zz5, zz6]
        refine wpTo_tk (i := 20) (v := undef) rfl (by kernel_rfl) (Or.inr ⟨by rfl, rfl⟩) (by assumption) ?_
        try simp only [Act.put, zz1, zz2, zz3, zz4, zz5, zz6]
        refine wpTo_tk (i := 21) (v := undef) rfl (by kernel_rfl) (Or.inr ⟨by rfl, rfl⟩) (by assumption) ?_
        try simp only [Act.put, zz1, zz2, zz3, zz4, zz5, zz6]
        refine wpTo_tk (i := 23) (v := undef) rfl (by kernel_rfl) (Or.inr ⟨by rfl, rfl⟩) (by assumption) ?_
        try simp only [Act.put, zz1, zz2, zz3, zz4, zz5, zz6]
        refine wpTo_tk (i := 24) (v := undef) rfl (by kernel_rfl) (Or.inr ⟨by rfl, rfl⟩) (by assumption) ?_
        try simp only [Act.put, zz1, zz2, zz3, zz4, zz5, zz6]
        refine wpTo_tk (i := 25) (v := undef) rfl (by kernel_rfl) (Or.inr ⟨by rfl, rfl⟩) (by assumption) ?_
        try simp only [Act.put, zz1, zz2, zz3, zz4, zz5, zz6]
        refine wpTo_tk (i := 26) (v := undef) rfl (by kernel_rfl) (Or.inr ⟨by rfl, rfl⟩) (by assumption) ?_
        try simp only [Act.put, zz1, zz2, zz3, zz4, zz5, zz6]
        refine wpTo_ready (rs := [22]) (by kernel_rfl) (by simp) ?_
        refine AllTo.cons (o := _) rfl (fun K hK => ?_) ?_
        ·
         skip
         rw [if_neg (by first | decide | (intro h; cases h))]
         refine hK.out _ _ (fun _ => hHeld) ?_
         clear hK K
         try simp only [Act.put, zz1, zz2, zz3, zz4, zz5, zz6]
         refine wpTo_ready (rs := [27]) (by kernel_rfl) (by simp) ?_
         refine AllTo.cons (o := _) rfl (fun K hK => ?_) ?_
         ·
          skip
          rw [if_neg (by first | decide | (intro h; cases h))]
          refine hK.out _ _ (fun _ => hHeld) ?_
          clear hK K
          try simp only [Act.put, zz1, zz2, zz3, zz4, zz5, zz6]
          refine wpTo_tk (i := 28) (v := undef) rfl (by kernel_rfl) (Or.inr ⟨by rfl, rfl⟩) (by assumption) ?_
          try simp only [Act.put, zz1, zz2, zz3, zz4, zz5, zz6]
          refine wpTo_ts (i := 29) (v := ?_) rfl (by kernel_rfl) hSd (by rfl) (fun w hSw => ?_) (by assumption) ?_
          rotate_left
          · ((try dsimp only [RqC] at hSw); go_simp <;> with_reducible rfl)
          try simp only [Act.put, zz1, zz2, zz3, zz4, zz5, zz6]
          refine wpTo_done (by kernel_rfl) ?_ _
          refine NoPanic.normal ?_
          go_wp2_with fail
          go_meet
          case rel => exact ⟨rfl, unhide Bu0⟩
         exact AllTo.nil
        exact AllTo.nil
      case rest =>
        obtain ⟨rfl, hb⟩ := hcut
        have HB := hide hb
        have HPX := hide (HP.out.later hb)
        have HEX0 := hide (HE.out.later hb)
        have HSZ0 := hide (Nat.le_trans HP.out.sz hb.size)
        have HFX0 : Hid (Fr base Bk w wc) := Fr.of (hb.mono HP.out.sz)
        clear Bwr Kpwr hb he0 he1 HNO
        have c3 : wc.cell? ⟨Bk, 3, none⟩ = some (.slice oa n oc) := (HPX.out.blk 3 (by simp)).1
        have hprs : n = rs.length := hrl.symm
        have hsz0 : base ≤ wc.heap.size := unhide HSZ0
        have P1 := hide (HPX.out.later ((Below.refl _ wc).alloc (Nat.le_refl _) (.cells #[.slice none 0 0] 29)))
        rw [hprs] at P1
        have HSOM : Hid (∀ i, i < rs.length → ∃ g c, (rs.getD i default).v = .slice (some ⟨g, 0, none⟩) (rs.getD i default).l.length c) := by rw [← hprs]; exact unhide HSOME
        subst hprs
        go_wp2_with (first
          | (at_builtin; refine wpList_append_lies _ rfl _ _ 89 rfl base 29 i0 (.slice none 0 0) 1 24 Tryz.underlying89 hi0 hz0 hz1 hz2 rfl (by omega) (.slice oa rs.length oc) rs.length (rs.map RowW.v) rfl P1.out.cart.out ⟨wc.heap.size, 0, none⟩ 1 1 [.slice none 0 0] rfl rfl (World.news_of_block (heap_alloc_new _ _)) (by simp [Value.oneCell']) (by omega) (by unfold maxLen; omega) (by omega) (by simp; omega) (wc.heap.size + 1) (by simp) ?_; intro go oc w3 ho3 hg3 hat3 hlt3; have kb := P1.out.blkCart hg3; have c3 := (kb 3 (by simp)).1; have f3 := (kb 3 (by simp)).2; have P2 := hide (P1.out.carton ho3 hg3 hat3 (by simp)); have c4 := (P2.out.blk 4 (by simp)).1; have F2 := hide ((((HFX0.out.trans (Fr.of ((Below.refl base wc).alloc hsz0 (.cells #[.slice none 0 0] 29)))).grown hg3 (by simp; omega) (fun b hb => (P1.out.cart.out.lt b hb).1)).set (p := ⟨Bk, 3, none⟩) (.inl rfl) (.slice (some ⟨go, 0, none⟩) (rs.length + 1) oc))); have P3 := hide (P2.out.later ((Below.refl _ _).alloc (Nat.le_refl _) (.cells #[.int .i64 0, .int .i64 0] 126))); have hO := P3.out.fill; rw [hfl] at hO; have O3 := hide hO; have hsz2 := P2.out.sz; simp at hsz2; clear ho3 hg3 hat3 hlt3 kb hO)
          | (at_builtin; refine wpList_append_lies _ rfl _ _ 167 rfl base 126 k0 (.agg #[.int .i64 0, .int .i64 0]) 2 16 Tryz.underlying167 hk0 hx0 hx1 hx2 rfl (by omega) (.slice fa rs.length fc) rs.length (fs.flatMap BulkV.cells) rfl O3.out ⟨w3.heap.size, 0, none⟩ 1 1 [.int .i64 0, .int .i64 0] rfl rfl (World.news_of_block (by have := heap_alloc_new (w3.setCell ⟨Bk, 3, none⟩ (.slice (some ⟨go, 0, none⟩) (rs.length + 1) oc)) (.cells #[.int .i64 0, .int .i64 0] 126); simpa using this)) (by simp [Value.oneCell']) (by omega) (by unfold maxLen; omega) (by omega) (by simp; omega) (w3.heap.size + 1) (by simp) ?_; intro gf fc w4 ho4 hg4 hat4 hlt4; have kb := P3.out.blkFill hg4; have c4 := (kb 4 (by simp)).1; have f4 := (kb 4 (by simp)).2; have P4 := hide (P3.out.filled (by rw [hfl]; exact ho4) hg4 hat4 (by simp)); rw [hfl] at P4; have F4 := hide (((F2.out.trans (Fr.of ((Below.refl base _).alloc (by simp; omega) (.cells #[.int .i64 0, .int .i64 0] 126)))).grown hg4 (by simp; omega) (fun b hb => (P3.out.fill.lt b hb).1)).set (p := ⟨Bk, 4, none⟩) (.inl rfl) (.slice (some ⟨gf, 0, none⟩) (rs.length + 1) fc)); clear ho4 hg4 hat4 hlt4 kb)
          | fail)
        clear c3 f3 c4 f4
        generalize (w4.setCell ⟨Bk, 4, none⟩ (.slice (some ⟨gf, 0, none⟩) (rs.length + 1) fc)) = wx at *
        obtain ⟨rsN, hrsN⟩ : ∃ r : List RowW, r = rs ++ [⟨.slice none 0 0, []⟩] := ⟨_, rfl⟩
        obtain ⟨fsN, hfsN⟩ : ∃ r : List BulkV, r = fs ++ [⟨0, 0⟩] := ⟨_, rfl⟩
        have hlN : rsN.length = rs.length + 1 := by rw [hrsN]; simp
        have hflN : fsN.length = rsN.length := by rw [hfsN, hlN]; simp; omega
        have HP0 : Hid (Pk base Bk (some ⟨eb, 0, none⟩) N ecap (vol t.wd t.ht t.dp) t.gram (.slice (some ⟨go, 0, none⟩) rsN.length oc) (.slice (some ⟨gf, 0, none⟩) fsN.length fc) rsN fsN wx) := by have h9 := unhide P4; rw [← hrsN, ← hfsN] at h9; rw [hflN, hlN]; exact h9
        have hsnoc : rsN.getD rs.length default = ⟨.slice none 0 0, []⟩ := by rw [hrsN]; exact getD_snoc_eq
        have HFSN : Hid (fsN = rsN.map (fun r => loadV xs r.l)) := by rw [Hid, hfsN, hrsN, List.map_append, ← unhide HFS]; rfl
        have HPG : Hid ((rsN.map RowW.l).set rs.length ((rsN.getD rs.length default).l ++ [(u : Int)]) = putP gs rs.length (u : Int)) := by
          have e1 : (rs.map RowW.l).length = rs.length := List.length_map _
          rw [Hid, hsnoc, ← hgl, putP_new, hrsN, List.map_append, unhide HRG, List.set_append_right _ _ (Nat.le_refl _), Nat.sub_self]; rfl
        have HSM : Hid (∀ i, i < rsN.length → i ≠ rs.length → ∃ g c, (rsN.getD i default).v = .slice (some ⟨g, 0, none⟩) (rsN.getD i default).l.length c) := fun i hi hne => by rw [hrsN, getD_snoc_lt (by omega)]; exact HSOM.out i (by omega)
        have HLL : Hid ((rsN.getD rs.length default).l.length ≤ 1048590) := by rw [Hid, hsnoc]; exact Nat.zero_le _
        have hp : rs.length < rsN.length := by omega
        have HFX := F4
        have HEX := hide (HE.out.fr F4.out heb hebn)
        have HFSQ := HFS
        clear HFS hsnoc P1 P2 P3 P4 O3 F2 F4 HPX HB HEX0 HFX0 HFSQ HSOM HSOME hrsN hfsN
        have HFS := HFSN
        clear HFSN
        generalize rs.length = p at *
        replace hfl := hflN
        clear hlN hflN
        have hP := unhide HP0
        have HSZ := hide hP.sz
        have hcell := hP.cart.out.cellAt p (by omega)
        have hrw := hP.cart.row p hp
        have HRB : Hid (∀ b, (rsN.getD p default).v.ownBlock = some b → base ≤ b) := fun b hb => (hrw.lt b hb).1
        have HRO : Hid (wx.ownsRow base 3 1 (rsN.getD p default).v (rsN.getD p default).l.length ((rsN.getD p default).l.map (Value.int .i64))) := hrw
        have HGREW := hide (fun (W w3 : World) (g3 cap3 H : Nat) (hP : Pk base Bk (some ⟨eb, 0, none⟩) N ecap (vol t.wd t.ht t.dp) t.gram (.slice (some ⟨go, 0, none⟩) rsN.length oc) (.slice (some ⟨gf, 0, none⟩) fsN.length fc) rsN fsN W) => hP.grew (w3 := w3) (g3 := g3) (cap3 := cap3) (H := H) (u := (u : Int)) hp)
        have HBR := hide (fun (W w3 : World) (hP : Pk base Bk (some ⟨eb, 0, none⟩) N ecap (vol t.wd t.ht t.dp) t.gram (.slice (some ⟨go, 0, none⟩) rsN.length oc) (.slice (some ⟨gf, 0, none⟩) fsN.length fc) rsN fsN W) => hP.blkRow (w3 := w3) hp)
        have hcell2 : wx.cell? ⟨go, p, none⟩ = some (rsN.getD p default).v := by rw [hcell]; simp [hp]
        have HGB : Hid (base ≤ go) := (hP.cart.out.lt go rfl).1
        have hgolt := (hP.cart.out.lt go rfl).2
        have hgflt := (hP.fill.lt gf rfl).2
        have hll : (rsN.getD p default).l.length ≤ 1048590 := unhide HLL
        have hfp : fsN.getD p default = loadV xs (rsN.getD p default).l := by rw [unhide HFS]; exact loads_getD xs rsN p hp
        have hpf : p < fsN.length := by rw [hfl]; exact hp
        have HBV := hide (volOf_bd xs (rsN.getD p default).l 1048590 hll)
        have HBG := hide (gramOf_bd xs hgd (rsN.getD p default).l 1048590 hll)
        have HSN1 := hide (volOf_snoc xs (rsN.getD p default).l (u : Int))
        have HSN2 := hide (gramOf_snoc xs (rsN.getD p default).l (u : Int))
        have hBx : Bk < wx.heap.size := Nat.lt_of_lt_of_le hP.lt hP.sz
        have hb3 : ∀ x, Below wx.heap.size wx x → x.cell? ⟨Bk, 3, none⟩ = some (.slice (some ⟨go, 0, none⟩) rsN.length oc) := fun x hb => (hb.cell (p := ⟨Bk, 3, none⟩) hBx).trans (hP.blk 3 (by simp)).1
        have hg3 : ∀ x, Below wx.heap.size wx x → x.cell? ⟨go, p, none⟩ = some (rsN.getD p default).v := fun x hb => (hb.cell (p := ⟨go, p, none⟩) hgolt).trans hcell2
        have HP := hide hP
        generalize rsN.getD p default = rv at *
        clear hP hcell hrw hcell2
        have Bwx : Hid (Below wx.heap.size wx wx) := Below.refl _ _
        go_upto_region 6 with fail
        go_cut [1] (fun v wc => v = .int .i64 (p : Int) ∧ ∃ g3 cap3, Pk base Bk (some ⟨eb, 0, none⟩) N ecap (vol t.wd t.ht t.dp) t.gram (.slice (some ⟨go, 0, none⟩) rsN.length oc) (.slice (some ⟨gf, 0, none⟩) fsN.length fc) (rsN.set p ⟨.slice (some ⟨g3, 0, none⟩) (rv.l.length + 1) cap3, rv.l ++ [(u : Int)]⟩) fsN wc ∧ Fr base Bk wx wc)
        case first =>
          refine wp_region_noPanic ?_
          have Bu0 : Hid (Below wx.heap.size wx wx.drew) := Bwx.out.drew
          obtain ⟨S, hSdef⟩ : ∃ S : World → Prop, S = (fun w' => w'.cell? ⟨Bk, 3, none⟩ = some (.slice (some ⟨go, 0, none⟩) rsN.length oc) ∧ w'.cell? ⟨go, p, none⟩ = some rv.v) := ⟨_, rfl⟩
          have hSmk : ∀ wq, (wq.cell? ⟨Bk, 3, none⟩ = some (.slice (some ⟨go, 0, none⟩) rsN.length oc)) → (wq.cell? ⟨go, p, none⟩ = some rv.v) → S wq := fun wq p0 p1 => by rw [hSdef]; exact ⟨p0, p1⟩
          have hSd : ∀ wq, S wq → (fun w' => w'.cell? ⟨Bk, 3, none⟩ = some (.slice (some ⟨go, 0, none⟩) rsN.length oc) ∧ w'.cell? ⟨go, p, none⟩ = some rv.v) wq := fun wq h => by rw [hSdef] at h; exact h
          clear hSdef
          have hHeld : S wx.drew := hSmk wx.drew (hb3 _ Bu0.out) (hg3 _ Bu0.out)
          refine wp_region_to (S := S) (T := [16]) (by kernel_rfl) hHeld (fun _ => ?_)
          generalize wx.drew = u0 at *
          refine wpTo_ts (i := 0) (v := ?_) rfl (by kernel_rfl) hSd (by rfl) (fun w hSw => ?_) (by assumption) ?_
          rotate_left
          · ((try dsimp only [RqC] at hSw); go_simp <;> with_reducible rfl)
          refine wpTo_ts (i := 1) (v := ?_) rfl (by kernel_rfl) hSd (by rfl) (fun w hSw => ?_) (by assumption) ?_
          rotate_left
          · ((try dsimp only [RqC] at hSw); go_simp <;> with_reducible rfl)
          refine wpTo_ts (i := 2) (v := ?_) rfl (by kernel_rfl) hSd (by rfl) (fun w hSw => ?_) (by assumption) ?_
          rotate_left
          · ((try dsimp only [RqC] at hSw); go_simp <;> with_reducible rfl)
          try simp only [Act.put, zz1, zz2, zz3, zz4, zz5, zz6]
          refine wpTo_ts (i := 3) (v := ?_) rfl (by kernel_rfl) hSd (by rfl) (fun w hSw => ?_) (by assumption) ?_
          rotate_left
          · ((try dsimp only [RqC] at hSw); go_simp <;> with_reducible rfl)
          refine wpTo_ts (i := 4) (v := ?_) rfl (by kernel_rfl) hSd (by rfl) (fun w hSw => ?_) (by assumption) ?_
          rotate_left
          · ((try dsimp only [RqC] at hSw); go_simp <;> with_reducible rfl)
          refine wpTo_ts (i := 5) (v := ?_) rfl (by kernel_rfl) hSd (by rfl) (fun w hSw => ?_) (by assumption) ?_
          rotate_left
          · ((try dsimp only [RqC] at hSw); go_simp <;> with_reducible rfl)
          try simp only [Act.put, zz1, zz2, zz3, zz4, zz5, zz6]
          refine wpTo_ts (i := 6) (v := ?_) rfl (by kernel_rfl) hSd (by rfl) (fun w hSw => ?_) (by assumption) ?_
          rotate_left
          · ((try dsimp only [RqC] at hSw); go_simp <;> with_reducible rfl)
          refine wpTo_ts (i := 7) (v := ?_) rfl (by kernel_rfl) hSd (by rfl) (fun w hSw => ?_) (by assumption) ?_
          rotate_left
          · ((try dsimp only [RqC] at hSw); go_simp <;> with_reducible rfl)
          refine wpTo_ts (i := 8) (v := ?_) rfl (by kernel_rfl) hSd (by rfl) (fun w hSw => ?_) (by assumption) ?_
          rotate_left
          · ((try dsimp only [RqC] at hSw); go_simp <;> with_reducible rfl)
          try simp only [Act.put, zz1, zz2, zz3, zz4, zz5, zz6]
          refine wpTo_ts (i := 9) (v := ?_) rfl (by kernel_rfl) hSd (by rfl) (fun w hSw => ?_) (by assumption) ?_
          rotate_left
          · ((try dsimp only [RqC] at hSw); go_simp <;> with_reducible rfl)
          refine wpTo_ts (i := 10) (v := ?_) rfl (by kernel_rfl) hSd (by rfl) (fun w hSw => ?_) (by assumption) ?_
          rotate_left
          · ((try dsimp only [RqC] at hSw); go_simp <;> with_reducible rfl)
          refine wpTo_ts (i := 11) (v := ?_) rfl (by kernel_rfl) hSd (by rfl) (fun w hSw => ?_) (by assumption) ?_
          rotate_left
          · ((try dsimp only [RqC] at hSw); go_simp <;> with_reducible rfl)
          try simp only [Act.put, zz1, zz2, zz3, zz4, zz5, zz6]
          refine wpTo_ts (i := 12) (v := ?_) rfl (by kernel_rfl) hSd (by rfl) (fun w hSw => ?_) (by assumption) ?_
          rotate_left
          · ((try dsimp only [RqC] at hSw); go_simp <;> with_reducible rfl)
          try simp only [Act.put, zz1, zz2, zz3, zz4, zz5, zz6]
          refine wpTo_ready (rs := [13]) (by kernel_rfl) (by simp) ?_
          refine AllTo.cons (o := _) rfl (fun K hK => ?_) ?_
          ·
           (try simp only [zz1, zz2, zz3])
           go_simp
           clear hHeld
           generalize hW : (u0.alloc (.cells #[.int .i64 (u : Int)] 3)) = u1 at *
           obtain ⟨hb, Kuu1, Zuu1⟩ := en1 hW
           have hb := unhide hb
           have Bu1 := hide (Bu0.out.trans (hb.mono Bu0.out.size))
           have Gu : wx.heap.size ≤ u0.heap.size := Bu0.out.size
           clear hb hW
           clear Bu0 
           have hHeld := hSmk u1 (hb3 _ Bu1.out) (hg3 _ Bu1.out)
           refine hK.out _ _ (fun _ => hHeld) ?_
           clear hK K
           try simp only [Act.put, zz1, zz2, zz3, zz4, zz5, zz6]
           refine wpTo_ready (rs := [14]) (by kernel_rfl) (by simp) ?_
           refine AllTo.cons (o := _) rfl (fun K hK => ?_) ?_
           ·
            skip
            refine step_append_lies _ (by rfl) _ _ 29 (by rfl) base 3 j0 (.int .i64 0) 1 8 Tryz.underlying29 hj0 hy0 hy1 hy2 rfl (by omega) rv.v rv.l.length (rv.l.map (Value.int .i64)) (by rfl) (own_laterV HRO.out Bu1.out) ⟨u0.heap.size, 0, none⟩ 1 1 [.int .i64 (u : Int)] (by rfl) rfl Kuu1.out.news (by simp [Value.oneCell']) (by omega) (by unfold maxLen; omega) (by omega) (by have := Bu1.out.size; have := unhide HSZ; omega) u1.heap.size rfl ?_
            intro g3 cap3 u2 ho hg hat hlt
            obtain ⟨c4, f4, hP4⟩ := HGREW.out u1 u2 g3 cap3 u1.heap.size (HP.out.later Bu1.out) ho hg hat rfl
            have c3 := (HBR.out u1 u2 (HP.out.later Bu1.out) hg 3 (by simp)).1
            have HP4 := hide hP4
            have HFR := hide (Fr.grown (base := base) (Bk := Bk) (Fr.of (Bu1.out.mono HSZ.out)) hg (by have := Bu1.out.size; have := unhide HSZ; omega) HRB.out)
            clear ho hg hat hlt hP4 hHeld
            have hHeld := hSmk u2 c3 c4
            refine hK.out _ _ (fun _ => hHeld) ?_
            clear hK K
            try simp only [Act.put, zz1, zz2, zz3, zz4, zz5, zz6]
            refine wpTo_ts (i := 15) (v := ?_) rfl (by kernel_rfl) hSd (by rfl) (fun w hSw => ?_) (by assumption) ?_
            rotate_left
            · ((try dsimp only [RqC] at hSw); go_simp <;> with_reducible rfl)
            try simp only [Act.put, zz1, zz2, zz3, zz4, zz5, zz6]
            refine wpTo_ready (rs := [16]) (by kernel_rfl) (by simp) ?_
            refine AllTo.cons (o := _) rfl (fun K hK => ?_) ?_
            ·
             (try simp only [zz1, zz2, zz3])
             go_simp
             refine hK.out _ _ (fun hn => absurd (by decide) hn) ?_
             clear hK K
             try simp only [Act.put, zz1, zz2, zz3, zz4, zz5, zz6]
             refine wpTo_done (by kernel_rfl) ?_ _
             refine NoPanic.normal ?_
             go_wp2_with fail
             go_meet
             case rel => exact ⟨rfl, g3, cap3, unhide HP4, HFR.out.set (p := ⟨go, p, none⟩) (.inr HGB.out) _⟩
            exact AllTo.nil
           exact AllTo.nil
          exact AllTo.nil
        case rest =>
          obtain ⟨rfl, g3, cap3, hP, hF⟩ := hcut
          have HF6 := hide (HFX.out.trans hF)
          have HE7 := hide (HEX.out.fr hF heb hebn)
          clear Bwx hF hb3 hg3 HGREW HBR HRO HP HP0
          have hfill := hP.fill
          have hgflt2 := (hfill.lt gf rfl).2
          have HGF : Hid (base ≤ gf) := (hfill.lt gf rfl).1
          have hv0 := (hfill.cellAt (p * 2) (by omega)).trans (getD_mid hpf hfp).1
          have hv1 := (hfill.cellAt (p * 2 + 1) (by omega)).trans (getD_mid hpf hfp).2
          have hz0 := hfill.frozenAt (p * 2)
          have hz1 := hfill.frozenAt (p * 2 + 1)
          obtain ⟨wx, hwx⟩ : ∃ w8 : World, w8 = wc := ⟨_, rfl⟩
          subst wc
          have HSZ := hide hP.sz
          have hBx2 : Bk < wx.heap.size := Nat.lt_of_lt_of_le hP.lt hP.sz
          obtain ⟨vL, hvL⟩ : ∃ v, v = volOf xs rv.l := ⟨_, rfl⟩
          obtain ⟨gL, hgL⟩ : ∃ v, v = gramOf xs rv.l := ⟨_, rfl⟩
          have hv0' : wx.cell? ⟨gf, p * 2, none⟩ = some (.int .i64 vL) := by rw [hv0, hvL]; rfl
          have hv1' : wx.cell? ⟨gf, p * 2 + 1, none⟩ = some (.int .i64 gL) := by rw [hv1, hgL]; rfl
          have hf0 : ∀ x, Below wx.heap.size wx x → x.cell? ⟨gf, p * 2, none⟩ = some (.int .i64 vL) := fun x hb => (hb.cell (p := ⟨gf, p * 2, none⟩) hgflt2).trans hv0'
          have hf1 : ∀ x, Below wx.heap.size wx x → x.cell? ⟨gf, p * 2 + 1, none⟩ = some (.int .i64 gL) := fun x hb => (hb.cell (p := ⟨gf, p * 2 + 1, none⟩) hgflt2).trans hv1'
          have hq0 : ∀ x, Below wx.heap.size wx x → x.frozen? ⟨gf, p * 2, none⟩ = false := fun x hb => (hb.frozen (p := ⟨gf, p * 2, none⟩) hgflt2).trans hz0
          have hq1 : ∀ x, Below wx.heap.size wx x → x.frozen? ⟨gf, p * 2 + 1, none⟩ = false := fun x hb => (hb.frozen (p := ⟨gf, p * 2 + 1, none⟩) hgflt2).trans hz1
          obtain ⟨e0, e1⟩ := HE7.out.2 u hu
          rw [← unhide HVU] at e0
          rw [← unhide HGU] at e1
          have helt7 := HE7.out.1
          have he0 : ∀ x, Below wx.heap.size wx x → x.cell? ⟨eb, u * 2, none⟩ = some (.int .i64 vU) := fun x hb => (hb.cell (p := ⟨eb, u * 2, none⟩) helt7).trans e0
          have he1 : ∀ x, Below wx.heap.size wx x → x.cell? ⟨eb, u * 2 + 1, none⟩ = some (.int .i64 gU) := fun x hb => (hb.cell (p := ⟨eb, u * 2 + 1, none⟩) helt7).trans e1
          have HBD : Hid (0 ≤ vL ∧ vL ≤ 8388720000000000 ∧ 0 ≤ gL ∧ gL ≤ 104859000000 ∧ 0 ≤ vU ∧ vU ≤ 8000000000 ∧ 0 ≤ gU ∧ gU ≤ 100000) := by have h1 := unhide HBV; have h2 := unhide HBG; have h3 := unhide HUB; have h4 := unhide HUG; rw [← hvL] at h1; rw [← hgL] at h2; exact ⟨by omega, by omega, by omega, by omega, by omega, by omega, by omega, by omega⟩
          have HPUT : Hid (∀ W, Below wx.heap.size wx W → Pk base Bk (some ⟨eb, 0, none⟩) N ecap (vol t.wd t.ht t.dp) t.gram (.slice (some ⟨go, 0, none⟩) rsN.length oc) (.slice (some ⟨gf, 0, none⟩) fsN.length fc) (rsN.set p ⟨.slice (some ⟨g3, 0, none⟩) (rv.l.length + 1) cap3, rv.l ++ [(u : Int)]⟩) (fsN.set p ⟨vL + vU, gL + gU⟩) ((W.setCell ⟨gf, p * 2, none⟩ (.int .i64 (vL + vU))).setCell ⟨gf, p * 2 + 1, none⟩ (.int .i64 (gL + gU)))) := fun W hb => (hP.later hb).put hpf
          have HLD : Hid ((⟨vL + vU, gL + gU⟩ : BulkV) = loadV xs (rv.l ++ [(u : Int)])) := by rw [Hid, loadV, unhide HSN1, unhide HSN2, hvL, hgL, unhide HVU, unhide HGU]
          have Kpwx := hide hP.blk
          have Zpwx := hBx2
          have Bwx : Hid (Below wx.heap.size wx wx) := Below.refl _ _
          have HGB := HGF
          clear hP hfill hv0 hv1 hz0 hz1 hv0' hv1' e0 e1 hvL hgL
          go_upto_region 7 with fail
          go_cut [1] (fun v wc => v = .int .i64 (p : Int) ∧ Pk base Bk (some ⟨eb, 0, none⟩) N ecap (vol t.wd t.ht t.dp) t.gram (.slice (some ⟨go, 0, none⟩) rsN.length oc) (.slice (some ⟨gf, 0, none⟩) fsN.length fc) (rsN.set p ⟨.slice (some ⟨g3, 0, none⟩) (rv.l.length + 1) cap3, rv.l ++ [(u : Int)]⟩) (fsN.set p ⟨vL + vU, gL + gU⟩) wc ∧ Fr base Bk wx wc)
          case first =>
            refine wp_region_noPanic ?_
            have Bu0 : Hid (Below wx.heap.size wx wx.drew) := Bwx.out.drew
            have Kpu0 : Hid (Blk wx.drew Bk [.slice (some ⟨eb, 0, none⟩) N ecap, .int .i64 (vol t.wd t.ht t.dp), .int .i64 t.gram, .slice (some ⟨go, 0, none⟩) rsN.length oc, .slice (some ⟨gf, 0, none⟩) fsN.length fc]) := unhide Kpwx
            have Zpu0 : Bk < wx.drew.heap.size := Zpwx
            obtain ⟨S, hSdef⟩ : ∃ S : World → Prop, S = (fun w' => w'.cell? ⟨Bk, 0, none⟩ = some (.slice (some ⟨eb, 0, none⟩) N ecap) ∧ w'.cell? ⟨Bk, 4, none⟩ = some (.slice (some ⟨gf, 0, none⟩) fsN.length fc) ∧ w'.cell? ⟨gf, p * 2, none⟩ = some (.int .i64 vL) ∧ w'.cell? ⟨gf, p * 2 + 1, none⟩ = some (.int .i64 gL) ∧ w'.cell? ⟨eb, u * 2, none⟩ = some (.int .i64 vU) ∧ w'.cell? ⟨eb, u * 2 + 1, none⟩ = some (.int .i64 gU)) := ⟨_, rfl⟩
            have hSmk : ∀ wq, Blk wq Bk [.slice (some ⟨eb, 0, none⟩) N ecap, .int .i64 (vol t.wd t.ht t.dp), .int .i64 t.gram, .slice (some ⟨go, 0, none⟩) rsN.length oc, .slice (some ⟨gf, 0, none⟩) fsN.length fc] → (wq.cell? ⟨gf, p * 2, none⟩ = some (.int .i64 vL)) → (wq.cell? ⟨gf, p * 2 + 1, none⟩ = some (.int .i64 gL)) → (wq.cell? ⟨eb, u * 2, none⟩ = some (.int .i64 vU)) → (wq.cell? ⟨eb, u * 2 + 1, none⟩ = some (.int .i64 gU)) → S wq := fun wq kp p0 p1 p2 p3 => by rw [hSdef]; exact ⟨(kp 0 (by simp)).1, (kp 4 (by simp)).1, p0, p1, p2, p3⟩
            have hSd : ∀ wq, S wq → (fun w' => w'.cell? ⟨Bk, 0, none⟩ = some (.slice (some ⟨eb, 0, none⟩) N ecap) ∧ w'.cell? ⟨Bk, 4, none⟩ = some (.slice (some ⟨gf, 0, none⟩) fsN.length fc) ∧ w'.cell? ⟨gf, p * 2, none⟩ = some (.int .i64 vL) ∧ w'.cell? ⟨gf, p * 2 + 1, none⟩ = some (.int .i64 gL) ∧ w'.cell? ⟨eb, u * 2, none⟩ = some (.int .i64 vU) ∧ w'.cell? ⟨eb, u * 2 + 1, none⟩ = some (.int .i64 gU)) wq := fun wq h => by rw [hSdef] at h; exact h
            clear hSdef
            have hHeld : S wx.drew := hSmk wx.drew Kpu0.out (hf0 _ Bu0.out) (hf1 _ Bu0.out) (he0 _ Bu0.out) (he1 _ Bu0.out)
            refine wp_region_to (S := S) (T := [21]) (by kernel_rfl) hHeld (fun _ => ?_)
            generalize wx.drew = u0 at *
            refine wpTo_ts (i := 0) (v := ?_) rfl (by kernel_rfl) hSd (by rfl) (fun w hSw => ?_) (by assumption) ?_
            rotate_left
            · ((try dsimp only [RqC] at hSw); go_simp <;> with_reducible rfl)
            refine wpTo_ts (i := 1) (v := ?_) rfl (by kernel_rfl) hSd (by rfl) (fun w hSw => ?_) (by assumption) ?_
            rotate_left
            · ((try dsimp only [RqC] at hSw); go_simp <;> with_reducible rfl)
            refine wpTo_ts (i := 2) (v := ?_) rfl (by kernel_rfl) hSd (by rfl) (fun w hSw => ?_) (by assumption) ?_
            rotate_left
            · ((try dsimp only [RqC] at hSw); go_simp <;> with_reducible rfl)
            try simp only [Act.put, zz1, zz2, zz3, zz4, zz5, zz6]
            refine wpTo_ts (i := 3) (v := ?_) rfl (by kernel_rfl) hSd (by rfl) (fun w hSw => ?_) (by assumption) ?_
            rotate_left
            · ((try dsimp only [RqC] at hSw); go_simp <;> with_reducible rfl)
            refine wpTo_ts (i := 4) (v := ?_) rfl (by kernel_rfl) hSd (by rfl) (fun w hSw => ?_) (by assumption) ?_
            rotate_left
            · ((try dsimp only [RqC] at hSw); go_simp <;> with_reducible rfl)
            refine wpTo_ts (i := 5) (v := ?_) rfl (by kernel_rfl) hSd (by rfl) (fun w hSw => ?_) (by assumption) ?_
            rotate_left
            · ((try dsimp only [RqC] at hSw); go_simp <;> with_reducible rfl)
            try simp only [Act.put, zz1, zz2, zz3, zz4, zz5, zz6]
            refine wpTo_ts (i := 6) (v := ?_) rfl (by kernel_rfl) hSd (by rfl) (fun w hSw => ?_) (by assumption) ?_
            rotate_left
            · ((try dsimp only [RqC] at hSw); go_simp <;> with_reducible rfl)
            refine wpTo_ts (i := 7) (v := ?_) rfl (by kernel_rfl) hSd (by rfl) (fun w hSw => ?_) (by assumption) ?_
            rotate_left
            · ((try dsimp only [RqC] at hSw); go_simp <;> with_reducible rfl)
            refine wpTo_ts (i := 8) (v := ?_) rfl (by kernel_rfl) hSd (by rfl) (fun w hSw => ?_) (by assumption) ?_
            rotate_left
            · ((try dsimp only [RqC] at hSw); go_simp <;> with_reducible rfl)
            try simp only [Act.put, zz1, zz2, zz3, zz4, zz5, zz6]
            refine wpTo_ts (i := 9) (v := ?_) rfl (by kernel_rfl) hSd (by rfl) (fun w hSw => ?_) (by assumption) ?_
            rotate_left
            · ((try dsimp only [RqC] at hSw); go_simp <;> with_reducible rfl)
            refine wpTo_ts (i := 10) (v := ?_) rfl (by kernel_rfl) hSd (by rfl) (fun w hSw => ?_) (by assumption) ?_
            rotate_left
            · ((try dsimp only [RqC] at hSw); go_simp <;> with_reducible rfl)
            refine wpTo_ts (i := 11) (v := ?_) rfl (by kernel_rfl) hSd (by rfl) (fun w hSw => ?_) (by assumption) ?_
            rotate_left
            · ((try dsimp only [RqC] at hSw); go_simp <;> with_reducible rfl)
            try simp only [Act.put, zz1, zz2, zz3, zz4, zz5, zz6]
            refine wpTo_ts (i := 12) (v := ?_) rfl (by kernel_rfl) hSd (by rfl) (fun w hSw => ?_) (by assumption) ?_
            rotate_left
            · ((try dsimp only [RqC] at hSw); go_simp <;> with_reducible rfl)
            refine wpTo_ts (i := 13) (v := ?_) rfl (by kernel_rfl) hSd (by rfl) (fun w hSw => ?_) (by assumption) ?_
            rotate_left
            · ((try dsimp only [RqC] at hSw); go_simp <;> with_reducible rfl)
            refine wpTo_ts (i := 14) (v := ?_) rfl (by kernel_rfl) hSd (by rfl) (fun w hSw => ?_) (by assumption) ?_
            rotate_left
            · ((try dsimp only [RqC] at hSw); go_simp <;> with_reducible rfl)
            try simp only [Act.put, zz1, zz2, zz3, zz4, zz5, zz6]
            refine wpTo_ts (i := 15) (v := ?_) rfl (by kernel_rfl) hSd (by rfl) (fun w hSw => ?_) (by assumption) ?_
            rotate_left
            · ((try dsimp only [RqC] at hSw); go_simp <;> with_reducible rfl)
            refine wpTo_ts (i := 16) (v := ?_) rfl (by kernel_rfl) hSd (by rfl) (fun w hSw => ?_) (by assumption) ?_
            rotate_left
            · ((try dsimp only [RqC] at hSw); go_simp <;> with_reducible rfl)
            refine wpTo_ts (i := 17) (v := ?_) rfl (by kernel_rfl) hSd (by rfl) (fun w hSw => ?_) (by assumption) ?_
            rotate_left
            · ((try dsimp only [RqC] at hSw); go_simp <;> with_reducible rfl)
            try simp only [Act.put, zz1, zz2, zz3, zz4, zz5, zz6]
            refine wpTo_ts (i := 18) (v := ?_) rfl (by kernel_rfl) hSd (by rfl) (fun w hSw => ?_) (by assumption) ?_
            rotate_left
            · ((try dsimp only [RqC] at hSw); go_simp <;> with_reducible rfl)
            try simp only [Act.put, zz1, zz2, zz3, zz4, zz5, zz6]
            refine wpTo_ready (rs := [19]) (by kernel_rfl) (by simp) ?_
            refine AllTo.cons (o := _) rfl (fun K hK => ?_) ?_
            ·
             (try simp only [zz1, zz2, zz3])
             go_simp
             refine (with_any vL gL vU gU _ (by have := unhide HBD; omega) (by have := unhide HBD; omega) (by have := unhide HBD; omega) (by have := unhide HBD; omega)).mono ?_
             rintro e u1 ⟨rfl, hb⟩
             have Bu1 := hide (Bu0.out.trans (hb.mono Bu0.out.size))
             have Kpu1 := hide (Blk.below hb Zpu0 Kpu0.out)
             have Zpu1 := Nat.lt_of_lt_of_le Zpu0 hb.size
             clear hb
             clear Bu0 Kpu0 Zpu0
             clear hHeld
             go_wp2_with fail
             have hHeld := hSmk u1 Kpu1.out (hf0 _ Bu1.out) (hf1 _ Bu1.out) (he0 _ Bu1.out) (he1 _ Bu1.out)
             refine hK.out _ _ (fun _ => hHeld) ?_
             clear hK K
             try simp only [Act.put, zz1, zz2, zz3, zz4, zz5, zz6]
             refine wpTo_ts (i := 20) (v := ?_) rfl (by kernel_rfl) hSd (by rfl) (fun w hSw => ?_) (by assumption) ?_
             rotate_left
             · ((try dsimp only [RqC] at hSw); go_simp <;> with_reducible rfl)
             try simp only [Act.put, zz1, zz2, zz3, zz4, zz5, zz6]
             refine wpTo_ready (rs := [21]) (by kernel_rfl) (by simp) ?_
             refine AllTo.cons (o := _) rfl (fun K hK => ?_) ?_
             ·
              (try simp only [zz1, zz2, zz3])
              have p0 := hf0 _ Bu1.out
              have p1 := hf1 _ Bu1.out
              have q0 := hq0 _ Bu1.out
              have q1 := hq1 _ Bu1.out
              go_simp
              refine hK.out _ _ (fun hn => absurd (by decide) hn) ?_
              clear hK K p0 p1 q0 q1
              try simp only [Act.put, zz1, zz2, zz3, zz4, zz5, zz6]
              refine wpTo_done (by kernel_rfl) ?_ _
              refine NoPanic.normal ?_
              go_wp2_with fail
              go_meet
              case rel => exact ⟨rfl, HPUT.out _ Bu1.out, ((Fr.of (Bu1.out.mono HSZ.out)).set (p := ⟨gf, p * 2, none⟩) (.inr HGB.out) _).set (p := ⟨gf, p * 2 + 1, none⟩) (.inr HGB.out) _⟩
             exact AllTo.nil
            exact AllTo.nil
          case rest =>
            obtain ⟨rfl, hP, hF⟩ := hcut
            have HP9 := hide hP
            have HF9 := hide (HF6.out.trans hF)
            have HE9 := hide (HE7.out.fr hF heb hebn)
            clear hP hF hf0 hf1 hq0 hq1 he0 he1 Kpwx Bwx HPUT
            go_wp2_with fail
            go_ret
            refine ⟨p, rfl, unhide HFO, ⟨some ⟨eb, 0, none⟩, some ⟨go, 0, none⟩, oc, some ⟨gf, 0, none⟩, fc, rsN.length, rsN.set p ⟨.slice (some ⟨g3, 0, none⟩) (rv.l.length + 1) cap3, rv.l ++ [(u : Int)]⟩, fsN.set p ⟨vL + vU, gL + gU⟩, fun _ => rfl, ?_, by rw [List.length_set], by rw [unhide HLD, unhide HFS]; exact loads_set xs rsN p ⟨.slice (some ⟨g3, 0, none⟩) (rv.l.length + 1) cap3, rv.l ++ [(u : Int)]⟩, by rw [List.map_set]; exact unhide HPG, ?_, unhide HE9, heb, hebn⟩, unhide HF9⟩
            · have h9 := unhide HP9; rw [hfl] at h9; exact h9
            · intro i hi
              by_cases e : i = p
              · subst e
                rw [getD_put_eq hp]
                exact ⟨g3, cap3, by rw [List.length_append]; rfl⟩
              · rw [getD_put_ne (fun x => e x.symm)]
                exact HSM.out i hi e
end Go.Proofs.YtphdeojiehigpaaGreatDoor
