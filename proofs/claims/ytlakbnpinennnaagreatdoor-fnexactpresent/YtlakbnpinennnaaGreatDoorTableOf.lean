/- impl.tableOf, impl.TableOk, spec.TableOk. -/
import Derived.Test.YtlakbnpinennnaaGreatDoorTableOk
import Derived.Deep.DeepCutAuto
namespace Go.Proofs.YtlakbnpinennnaaGreatDoor
open Go.RowKit
set_option linter.unusedVariables false
theorem take_snoc {α : Type} [Inhabited α] (xs : List α) (k : Nat) (h : k < xs.length) : xs.take (k + 1) = xs.take k ++ [xs.getD k default] := by
  rw [List.take_succ_eq_append_getElem h]
  simp [h]
set_option maxHeartbeats 4000000 in
theorem tableOf_any (a : Option Addr) (n cp : Nat) (ps : List PairV) (c : Nat) (hc1 : 1 ≤ c) (hc : c ≤ 4) (w : World) (hr : RdR PairV.cells 2 w a n ps) (hn : n ≤ 1048600) :
    Calls Tryz.prog 140 #[.slice a n cp, .int .i64 (c : Int)] w fun e w' => e = .returned (.agg (flc (flagsOf ps c)).toArray) ∧ Below w.heap.size w w' := by
  have HR := hide hr
  clear hr
  have HB : Hid (Below w.heap.size w ((w.alloc (.cells #[.bool false, .bool false, .bool false, .bool false, .bool false, .bool false, .bool false, .bool false, .bool false, .bool false, .bool false, .bool false, .bool false, .bool false, .bool false, .bool false] 170)).alloc (.cells #[.bool false, .bool false, .bool false, .bool false, .bool false, .bool false, .bool false, .bool false, .bool false, .bool false, .bool false, .bool false, .bool false, .bool false, .bool false, .bool false] 170))) := ((Below.refl _ _).alloc (Nat.le_refl _) _).alloc (by simp) _
  have HKR : Hid (Blk ((w.alloc (.cells #[.bool false, .bool false, .bool false, .bool false, .bool false, .bool false, .bool false, .bool false, .bool false, .bool false, .bool false, .bool false, .bool false, .bool false, .bool false, .bool false] 170)).alloc (.cells #[.bool false, .bool false, .bool false, .bool false, .bool false, .bool false, .bool false, .bool false, .bool false, .bool false, .bool false, .bool false, .bool false, .bool false, .bool false, .bool false] 170)) w.heap.size (flc (List.replicate 16 false))) := (Blk.allocAt (flc (List.replicate 16 false)) rfl).allocOld (by simp) _
  have HKT : Hid (Blk ((w.alloc (.cells #[.bool false, .bool false, .bool false, .bool false, .bool false, .bool false, .bool false, .bool false, .bool false, .bool false, .bool false, .bool false, .bool false, .bool false, .bool false, .bool false] 170)).alloc (.cells #[.bool false, .bool false, .bool false, .bool false, .bool false, .bool false, .bool false, .bool false, .bool false, .bool false, .bool false, .bool false, .bool false, .bool false, .bool false, .bool false] 170)) (w.heap.size + 1) (flc (List.replicate 16 false))) := Blk.allocAt (flc (List.replicate 16 false)) (by simp)
  have hz1 : w.heap.size + 1 < ((w.alloc (.cells #[.bool false, .bool false, .bool false, .bool false, .bool false, .bool false, .bool false, .bool false, .bool false, .bool false, .bool false, .bool false, .bool false, .bool false, .bool false, .bool false] 170)).alloc (.cells #[.bool false, .bool false, .bool false, .bool false, .bool false, .bool false, .bool false, .bool false, .bool false, .bool false, .bool false, .bool false, .bool false, .bool false, .bool false, .bool false] 170)).heap.size := by simp
  go_enter Tryz.func140, Tryz.ntmps140
  go_wp2
  generalize (w.alloc (.cells #[.bool false, .bool false, .bool false, .bool false, .bool false, .bool false, .bool false, .bool false, .bool false, .bool false, .bool false, .bool false, .bool false, .bool false, .bool false, .bool false] 170)).alloc (.cells #[.bool false, .bool false, .bool false, .bool false, .bool false, .bool false, .bool false, .bool false, .bool false, .bool false, .bool false, .bool false, .bool false, .bool false, .bool false, .bool false] 170) = w1 at HB HKR HKT hz1 ⊢
  go_loopw [10] (fun i wr => ∃ k : Nat, k ≤ n ∧ i = .int .i64 k ∧ Below w.heap.size w wr ∧ Blk wr w.heap.size (flc (List.replicate 16 false)) ∧ Blk wr (w.heap.size + 1) (flc (flagsOf (ps.take k) c)) ∧ w.heap.size + 1 < wr.heap.size) (fun i _ => n - (intOf i).toNat)
  case atStart => exact ⟨0, Nat.zero_le _, rfl, unhide HB, unhide HKR, by rw [List.take_zero, flags_none]; exact unhide HKT, hz1⟩
  case round =>
    clear HB HKR HKT hz1
    obtain ⟨k, hk, rfl, hbel, hkr, hkt, hz⟩ := hrel
    by_cases hlt : k < n
    case neg =>
      rw [List.take_of_length_le (by rw [(unhide HR).1]; omega)] at hkt
      obtain ⟨c0, c1, c2, c3, c4, c5, c6, c7, c8, c9, c10, c11, c12, c13, c14, c15, hG⟩ := sixteen (flagsOf ps c) (flagsOf_len ps c)
      have HV : Hid (Value.agg (flc (flagsOf ps c)).toArray = .agg #[.bool c0, .bool c1, .bool c2, .bool c3, .bool c4, .bool c5, .bool c6, .bool c7, .bool c8, .bool c9, .bool c10, .bool c11, .bool c12, .bool c13, .bool c14, .bool c15]) := by rw [hG]; rfl
      have HBE := hide (below_write (B := w.heap.size) (g := w.heap.size) (Nat.le_refl _) (flc (flagsOf ps c)) _ _ 0 hbel)
      rw [hG] at hkt HBE
      have t0 : wr.cell? ⟨w.heap.size + 1, 0, none⟩ = some (.bool c0) := (hkt 0 (by simp [flc])).1
      have r0 : wr.cell? ⟨w.heap.size, 0, none⟩ = some (.bool false) := (hkr 0 (by simp [flc])).1
      have z0 : wr.frozen? ⟨w.heap.size, 0, none⟩ = false := (hkr 0 (by simp [flc])).2
      have t1 : wr.cell? ⟨w.heap.size + 1, 1, none⟩ = some (.bool c1) := (hkt 1 (by simp [flc])).1
      have r1 : wr.cell? ⟨w.heap.size, 1, none⟩ = some (.bool false) := (hkr 1 (by simp [flc])).1
      have z1 : wr.frozen? ⟨w.heap.size, 1, none⟩ = false := (hkr 1 (by simp [flc])).2
      have t2 : wr.cell? ⟨w.heap.size + 1, 2, none⟩ = some (.bool c2) := (hkt 2 (by simp [flc])).1
      have r2 : wr.cell? ⟨w.heap.size, 2, none⟩ = some (.bool false) := (hkr 2 (by simp [flc])).1
      have z2 : wr.frozen? ⟨w.heap.size, 2, none⟩ = false := (hkr 2 (by simp [flc])).2
      have t3 : wr.cell? ⟨w.heap.size + 1, 3, none⟩ = some (.bool c3) := (hkt 3 (by simp [flc])).1
      have r3 : wr.cell? ⟨w.heap.size, 3, none⟩ = some (.bool false) := (hkr 3 (by simp [flc])).1
      have z3 : wr.frozen? ⟨w.heap.size, 3, none⟩ = false := (hkr 3 (by simp [flc])).2
      have t4 : wr.cell? ⟨w.heap.size + 1, 4, none⟩ = some (.bool c4) := (hkt 4 (by simp [flc])).1
      have r4 : wr.cell? ⟨w.heap.size, 4, none⟩ = some (.bool false) := (hkr 4 (by simp [flc])).1
      have z4 : wr.frozen? ⟨w.heap.size, 4, none⟩ = false := (hkr 4 (by simp [flc])).2
      have t5 : wr.cell? ⟨w.heap.size + 1, 5, none⟩ = some (.bool c5) := (hkt 5 (by simp [flc])).1
      have r5 : wr.cell? ⟨w.heap.size, 5, none⟩ = some (.bool false) := (hkr 5 (by simp [flc])).1
      have z5 : wr.frozen? ⟨w.heap.size, 5, none⟩ = false := (hkr 5 (by simp [flc])).2
      have t6 : wr.cell? ⟨w.heap.size + 1, 6, none⟩ = some (.bool c6) := (hkt 6 (by simp [flc])).1
      have r6 : wr.cell? ⟨w.heap.size, 6, none⟩ = some (.bool false) := (hkr 6 (by simp [flc])).1
      have z6 : wr.frozen? ⟨w.heap.size, 6, none⟩ = false := (hkr 6 (by simp [flc])).2
      have t7 : wr.cell? ⟨w.heap.size + 1, 7, none⟩ = some (.bool c7) := (hkt 7 (by simp [flc])).1
      have r7 : wr.cell? ⟨w.heap.size, 7, none⟩ = some (.bool false) := (hkr 7 (by simp [flc])).1
      have z7 : wr.frozen? ⟨w.heap.size, 7, none⟩ = false := (hkr 7 (by simp [flc])).2
      have t8 : wr.cell? ⟨w.heap.size + 1, 8, none⟩ = some (.bool c8) := (hkt 8 (by simp [flc])).1
      have r8 : wr.cell? ⟨w.heap.size, 8, none⟩ = some (.bool false) := (hkr 8 (by simp [flc])).1
      have z8 : wr.frozen? ⟨w.heap.size, 8, none⟩ = false := (hkr 8 (by simp [flc])).2
      have t9 : wr.cell? ⟨w.heap.size + 1, 9, none⟩ = some (.bool c9) := (hkt 9 (by simp [flc])).1
      have r9 : wr.cell? ⟨w.heap.size, 9, none⟩ = some (.bool false) := (hkr 9 (by simp [flc])).1
      have z9 : wr.frozen? ⟨w.heap.size, 9, none⟩ = false := (hkr 9 (by simp [flc])).2
      have t10 : wr.cell? ⟨w.heap.size + 1, 10, none⟩ = some (.bool c10) := (hkt 10 (by simp [flc])).1
      have r10 : wr.cell? ⟨w.heap.size, 10, none⟩ = some (.bool false) := (hkr 10 (by simp [flc])).1
      have z10 : wr.frozen? ⟨w.heap.size, 10, none⟩ = false := (hkr 10 (by simp [flc])).2
      have t11 : wr.cell? ⟨w.heap.size + 1, 11, none⟩ = some (.bool c11) := (hkt 11 (by simp [flc])).1
      have r11 : wr.cell? ⟨w.heap.size, 11, none⟩ = some (.bool false) := (hkr 11 (by simp [flc])).1
      have z11 : wr.frozen? ⟨w.heap.size, 11, none⟩ = false := (hkr 11 (by simp [flc])).2
      have t12 : wr.cell? ⟨w.heap.size + 1, 12, none⟩ = some (.bool c12) := (hkt 12 (by simp [flc])).1
      have r12 : wr.cell? ⟨w.heap.size, 12, none⟩ = some (.bool false) := (hkr 12 (by simp [flc])).1
      have z12 : wr.frozen? ⟨w.heap.size, 12, none⟩ = false := (hkr 12 (by simp [flc])).2
      have t13 : wr.cell? ⟨w.heap.size + 1, 13, none⟩ = some (.bool c13) := (hkt 13 (by simp [flc])).1
      have r13 : wr.cell? ⟨w.heap.size, 13, none⟩ = some (.bool false) := (hkr 13 (by simp [flc])).1
      have z13 : wr.frozen? ⟨w.heap.size, 13, none⟩ = false := (hkr 13 (by simp [flc])).2
      have t14 : wr.cell? ⟨w.heap.size + 1, 14, none⟩ = some (.bool c14) := (hkt 14 (by simp [flc])).1
      have r14 : wr.cell? ⟨w.heap.size, 14, none⟩ = some (.bool false) := (hkr 14 (by simp [flc])).1
      have z14 : wr.frozen? ⟨w.heap.size, 14, none⟩ = false := (hkr 14 (by simp [flc])).2
      have t15 : wr.cell? ⟨w.heap.size + 1, 15, none⟩ = some (.bool c15) := (hkt 15 (by simp [flc])).1
      have r15 : wr.cell? ⟨w.heap.size, 15, none⟩ = some (.bool false) := (hkr 15 (by simp [flc])).1
      have z15 : wr.frozen? ⟨w.heap.size, 15, none⟩ = false := (hkr 15 (by simp [flc])).2
      clear hG hbel hkr hkt HR
      go_wp2_with fail
      refine bodyPost_ret (v := .agg #[.bool c0, .bool c1, .bool c2, .bool c3, .bool c4, .bool c5, .bool c6, .bool c7, .bool c8, .bool c9, .bool c10, .bool c11, .bool c12, .bool c13, .bool c14, .bool c15]) (by simp [results, Tryz.results140, go_sem, r0, r1, r2, r3, r4, r5, r6, r7, r8, r9, r10, r11, r12, r13, r14, r15]) rfl ?_
      exact ⟨by rw [unhide HV], unhide HBE⟩
    obtain ⟨b, off, rfl, hcl⟩ := ((unhide HR).mono (by omega) PairV.len hbel).2 k hlt
    have HTK := hide (take_snoc ps k (by rw [(unhide HR).1]; exact hlt))
    generalize ps.getD k default = q at hcl HTK
    have d0 : wr.cell? ⟨b, off + k * 2, none⟩ = some (.int .i64 q.a) := hcl 0 (by omega)
    have d1 : wr.cell? ⟨b, off + k * 2 + 1, none⟩ = some (.int .i64 q.b) := hcl 1 (by omega)
    have B1 : Hid (Below w.heap.size w (wr.alloc (.cells #[.int .i64 q.a, .int .i64 q.b] 98))) := hbel.alloc hbel.size _
    have KR := hide (hkr.allocOld (by omega) (.cells #[.int .i64 q.a, .int .i64 q.b] 98))
    have KT := hide (hkt.allocOld (by omega) (.cells #[.int .i64 q.a, .int .i64 q.b] 98))
    have KP : Hid (Blk (wr.alloc (.cells #[.int .i64 q.a, .int .i64 q.b] 98)) wr.heap.size (PairV.cells q)) := Blk.allocAt (PairV.cells q) rfl
    have hz2 : w.heap.size + 1 < (wr.alloc (.cells #[.int .i64 q.a, .int .i64 q.b] 98)).heap.size := by simp; omega
    have B0 := hide hbel
    have KR0 := hide hkr
    have KT0 := hide hkt
    clear hcl hbel hkr hkt
    cases g1 : inB q.a 0 ((c : Int) - 1)
    case false =>
      have HSK := hide (flags_skip (ps.take k) q c (by rw [inB_no] at g1; omega))
      go_wp2_with (first | (go_at_call 41; refine (within_any _ _ _ _).mono ?_; rintro e w' ⟨rfl, rfl⟩; rw [g1]) | fail)
      go_roundw
      case rel => exact ⟨k + 1, by omega, by go_num, unhide B1, unhide KR, by rw [unhide HTK, unhide HSK]; exact unhide KT, hz2⟩
      case measure => simp [intOf]; omega
    cases g2 : inB q.b 0 ((c : Int) - 1)
    case false =>
      have HSK := hide (flags_skip (ps.take k) q c (by rw [inB_no] at g2; omega))
      go_wp2_with (first | (go_at_call 41; refine (within_any _ _ _ _).mono ?_; rintro e w' ⟨rfl, rfl⟩; first | rw [g1] | rw [g2]) | fail)
      go_roundw
      case rel => exact ⟨k + 1, by omega, by go_num, unhide B1, unhide KR, by rw [unhide HTK, unhide HSK]; exact unhide KT, hz2⟩
      case measure => simp [intOf]; omega
    rw [inB_iff] at g1 g2
    obtain ⟨A, hA⟩ := Int.eq_ofNat_of_zero_le g1.1
    obtain ⟨B, hB⟩ := Int.eq_ofNat_of_zero_le g2.1
    have hA4 : A < c := by omega
    have hB4 : B < c := by omega
    have HH := hide (flags_hit (ps.take k) q c A B hA hB hA4 hB4 hc)
    have HTK2 := hide ((unhide HTK))
    have HPC : Hid (PairV.cells q = [.int .i64 (A : Int), .int .i64 (B : Int)]) := hide (by unfold PairV.cells; rw [hA, hB])
    rw [hA] at d0 B1 KR KT KP hz2
    rw [hB] at d1 B1 KR KT KP hz2
    have i1 : inB (A : Int) 0 ((c : Int) - 1) = true := by rw [inB_iff]; omega
    have i2 : inB (B : Int) 0 ((c : Int) - 1) = true := by rw [inB_iff]; omega
    have kp := unhide KP
    rw [unhide HPC] at kp
    have p0 : (wr.alloc (.cells #[.int .i64 (A : Int), .int .i64 (B : Int)] 98)).cell? ⟨wr.heap.size, 0, none⟩ = some (.int .i64 (A : Int)) := (kp 0 (by simp)).1
    have p1 : (wr.alloc (.cells #[.int .i64 (A : Int), .int .i64 (B : Int)] 98)).cell? ⟨wr.heap.size, 1, none⟩ = some (.int .i64 (B : Int)) := (kp 1 (by simp)).1
    obtain ⟨s0, s1⟩ := (unhide KT).flag (A * 4 + B) (by rw [flagsOf_len]; omega)
    have HB2 : Hid (Below w.heap.size w ((wr.setCell ⟨w.heap.size + 1, A * 4 + B, none⟩ (.bool true)).alloc (.cells #[.int .i64 (A : Int), .int .i64 (B : Int)] 98))) := ((unhide B0).setCell (by show w.heap.size ≤ w.heap.size + 1; omega) _).alloc (by simp; omega) _
    have KR2 := hide (((unhide KR0).other (g' := w.heap.size + 1) (j := A * 4 + B) (v := .bool true) (by omega)).allocOld (by simp; omega) (.cells #[.int .i64 (A : Int), .int .i64 (B : Int)] 98))
    have KT2 : Hid (Blk ((wr.setCell ⟨w.heap.size + 1, A * 4 + B, none⟩ (.bool true)).alloc (.cells #[.int .i64 (A : Int), .int .i64 (B : Int)] 98)) (w.heap.size + 1) (flc (flagsOf (ps.take (k + 1)) c))) := by
      rw [unhide HTK2, unhide HH, ← flc_set]
      exact ((unhide KT0).set (by rw [flc_len, flagsOf_len]; omega)).allocOld (by simp; omega) _
    have hz3 : w.heap.size + 1 < ((wr.setCell ⟨w.heap.size + 1, A * 4 + B, none⟩ (.bool true)).alloc (.cells #[.int .i64 (A : Int), .int .i64 (B : Int)] 98)).heap.size := by simp; omega
    generalize fl (flagsOf (ps.take k) c) (A * 4 + B) = old at s0
    clear g1 g2 hA hB HH HTK HTK2 HPC B1 KR KT KP kp B0 KR0 KT0
    go_wp2_with (first | (go_at_call 41; refine (within_any _ _ _ _).mono ?_; rintro e w' ⟨rfl, rfl⟩; first | rw [i1] | rw [i2]) | fail)
    go_region
    all_goals
      go_wp2_with fail
      go_roundw
      case rel => exact ⟨k + 1, by omega, by go_num, (unhide HB2).drew, unhide KR2, unhide KT2, hz3⟩
      case measure => simp [intOf]; omega
end Go.Proofs.YtlakbnpinennnaaGreatDoor
