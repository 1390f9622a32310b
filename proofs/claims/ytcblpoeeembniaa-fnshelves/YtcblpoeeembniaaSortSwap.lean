/- The library's swapRange and rotate over a row of places. -/
import Derived.Test.YtcblpoeeembniaaSortRow
namespace Go.Proofs.Ytcblpoeeembniaa
open Go.RowKit

theorem range_split (P X Y Z Q : List Nat) (k : Nat) (hx : k < X.length) (hz : k < Z.length) :
 P ++ (Z.take k ++ X.drop k) ++ Y ++ (X.take k ++ Z.drop k) ++ Q = (P ++ Z.take k) ++ X[k] :: ((X.drop (k + 1) ++ Y ++ X.take k) ++ Z[k] :: (Z.drop (k + 1) ++ Q)) := by
 rw [List.drop_eq_getElem_cons hx, List.drop_eq_getElem_cons hz]
 simp only [List.append_assoc, List.cons_append]
theorem range_join (P X Y Z Q : List Nat) (k : Nat) (hx : k < X.length) (hz : k < Z.length) :
 (P ++ Z.take k) ++ Z[k] :: ((X.drop (k + 1) ++ Y ++ X.take k) ++ X[k] :: (Z.drop (k + 1) ++ Q)) = P ++ (Z.take (k + 1) ++ X.drop (k + 1)) ++ Y ++ (X.take (k + 1) ++ Z.drop (k + 1)) ++ Q := by
 rw [List.take_succ_eq_append_getElem hx, List.take_succ_eq_append_getElem hz]
 simp only [List.append_assoc, List.cons_append, List.nil_append]

set_option maxHeartbeats 1600000 in
theorem swapRange_any (base g n cap : Nat) (P X Y Z Q : List Nat) (A B N : Int) (fv : Value) (w : World) (hA : A = P.length) (hB : B = P.length + X.length + Y.length) (hN : N = X.length) (hXZ : Z.length = X.length)
 (hown : w.ownsRow base 3 1 (.slice (some ⟨g, 0, none⟩) n cap) n (cellsN (P ++ X ++ Y ++ Z ++ Q))) (hn : n ≤ 1048576) :
 Calls Try.prog 74 #[.slice (some ⟨g, 0, none⟩) n cap, .int .i64 A, .int .i64 B, .int .i64 N, fv] w fun e w' =>
  e = .returned (.tuple #[]) ∧ w'.ownsRow base 3 1 (.slice (some ⟨g, 0, none⟩) n cap) n (cellsN (P ++ Z ++ Y ++ X ++ Q)) ∧ w.grownBy w' (some g) := by
 have hlen : P.length + X.length + Y.length + Z.length + Q.length = n := by have := hown.1; simp [cellsN] at this; omega
 have HA := hide hA
 have HB := hide hB
 have HN := hide hN
 have hA0 : 0 ≤ A := by omega
 have hB0 : 0 ≤ B := by omega
 have hAB : A + N ≤ B := by omega
 have hBn : B + N ≤ n := by omega
 clear hA hB hN
 go_enter Try.func74, Try.ntmps74
 go_wp2
 go_loopw [10] (fun i wr => ∃ k : Nat, k ≤ X.length ∧ i = .int .i64 (k : Int) ∧ wr.ownsRow base 3 1 (.slice (some ⟨g, 0, none⟩) n cap) n (cellsN (P ++ (Z.take k ++ X.drop k) ++ Y ++ (X.take k ++ Z.drop k) ++ Q)) ∧ w.grownBy wr (some g)) (fun i _ => X.length - (intOf i).toNat)
 case atStart => exact ⟨0, Nat.zero_le _, rfl, by simpa using hown, World.grownBy.refl _ _⟩
 case round =>
  obtain ⟨k, hk, rfl, how, hgb⟩ := hrel
  by_cases hlt : k < X.length
  · have hltN : (k : Int) < N := by have := HN.out; omega
    obtain ⟨i, hi⟩ : ∃ i : Nat, A + k = i := ⟨P.length + k, by have := HA.out; omega⟩
    obtain ⟨j, hj⟩ : ∃ j : Nat, B + k = j := ⟨P.length + X.length + Y.length + k, by have := HB.out; omega⟩
    have hi' : i = (P ++ Z.take k).length := by rw [List.length_append, List.length_take]; have := HA.out; omega
    have hj' : j = (P ++ Z.take k).length + 1 + (X.drop (k + 1) ++ Y ++ X.take k).length := by simp; have := HB.out; omega
    have hin : i < n := by have := HA.out; omega
    have hjn : j < n := by omega
    have hij : ¬ i = j := by omega
    rw [range_split P X Y Z Q k hlt (by omega)] at how
    have c1 := own_get how i _ (at_1 _ _ _ _ _ i hi')
    have c2 := own_get how j _ (at_2 _ _ _ _ _ j hj')
    have f1 : wr.frozen? ⟨g, i, none⟩ = false := how.frozenAt i
    have f2 : wr.frozen? ⟨g, j, none⟩ = false := how.frozenAt j
    have HST : Hid (((wr.setCell ⟨g, i, none⟩ (.int .i64 (Z[k] : Int))).setCell ⟨g, j, none⟩ (.int .i64 (X[k] : Int))).ownsRow base 3 1 (.slice (some ⟨g, 0, none⟩) n cap) n (cellsN (P ++ (Z.take (k + 1) ++ X.drop (k + 1)) ++ Y ++ (X.take (k + 1) ++ Z.drop (k + 1)) ++ Q))) := by
     have hst := own_put (own_put how i Z[k]) j X[k]
     rw [swap2 _ _ _ _ _ i j hi' hj', range_join P X Y Z Q k hlt (by omega)] at hst
     exact hst
    have HGB : Hid (w.grownBy ((wr.setCell ⟨g, i, none⟩ (.int .i64 (Z[k] : Int))).setCell ⟨g, j, none⟩ (.int .i64 (X[k] : Int))) (some g)) := gb_set (gb_set hgb i _) j _
    generalize X[k] = x at *
    generalize Z[k] = z at *
    have HI := hide hi'
    have HJ := hide hj'
    clear how hgb hi' hj'
    go_wp2
    go_region
    go_wp2
    go_roundw
    case rel => exact ⟨k + 1, by omega, by go_num, HST.out.drew, ⟨HGB.out.os, HGB.out.tape, HGB.out.output, HGB.out.size, HGB.out.block⟩⟩
    case measure => simp [intOf]; omega
  · have hkk : k = X.length := by omega
    have hltN : ¬ (k : Int) < N := by have := HN.out; omega
    subst hkk
    rw [List.take_length, List.drop_length, List.append_nil, List.take_of_length_le (Nat.le_of_eq hXZ), List.drop_of_length_le (Nat.le_of_eq hXZ), List.append_nil] at how
    go_wp2
    go_end0
    exact ⟨rfl, by simpa only [List.append_assoc] using how, hgb⟩

theorem rot_a {F P X Y Q A B : List Nat} (h : F = P ++ Y ++ X ++ Q) (e : A ++ B = X) : F = P ++ Y ++ A ++ B ++ Q := by
 rw [h, ← e]; simp
theorem rot_b {F P X Y Q A B : List Nat} (h : F = P ++ Y ++ X ++ Q) (e : A ++ B = Y) : F = P ++ A ++ B ++ (X ++ Q) := by
 rw [h, ← e]; simp
theorem gb_trans {w w1 w2 : World} {row : Option Nat} (h : w.grownBy w1 row) (h' : w1.grownBy w2 row) : w.grownBy w2 row :=
 ⟨h'.os.trans h.os, h'.tape.trans h.tape, h'.output.trans h.output, Nat.le_trans h.size h'.size, fun k hk hne => (h'.block k (Nat.lt_of_lt_of_le hk h.size) hne).trans (h.block k hk hne)⟩

set_option maxHeartbeats 1600000 in
theorem rotate_any (base g n cap : Nat) (P U V Q : List Nat) (A M B : Int) (fv : Value) (w : World) (hA : A = P.length) (hM : M = P.length + U.length) (hB : B = P.length + U.length + V.length) (hU : 1 ≤ U.length) (hV : 1 ≤ V.length)
 (hown : w.ownsRow base 3 1 (.slice (some ⟨g, 0, none⟩) n cap) n (cellsN (P ++ U ++ V ++ Q))) (hn : n ≤ 1048576) :
 Calls Try.prog 73 #[.slice (some ⟨g, 0, none⟩) n cap, .int .i64 A, .int .i64 M, .int .i64 B, fv] w fun e w' =>
  e = .returned (.tuple #[]) ∧ w'.ownsRow base 3 1 (.slice (some ⟨g, 0, none⟩) n cap) n (cellsN (P ++ V ++ U ++ Q)) ∧ w.grownBy w' (some g) := by
 have hlen : P.length + U.length + V.length + Q.length = n := by have := hown.1; simp [cellsN] at this; omega
 have HM := hide hM
 have h1 : M - A = (U.length : Int) := by omega
 have h2 : B - M = (V.length : Int) := by omega
 have hA0 : 0 ≤ A := by omega
 have hM0 : 0 ≤ M ∧ M ≤ n := by omega
 have hB0 : 0 ≤ B ∧ B ≤ n := by omega
 have HT : Hid (∃ F, F = P ++ V ++ U ++ Q) := ⟨_, rfl⟩
 obtain ⟨F, hF⟩ := HT.out
 have HF := hide hF
 rw [← hF]
 clear hA hM hB hF HT
 go_enter Try.func73, Try.ntmps73
 go_wp2
 go_loopw [10, 11] (fun i j wr => ∃ (P' X Y Q' : List Nat), 1 ≤ X.length ∧ 1 ≤ Y.length ∧ i = .int .i64 (X.length : Int) ∧ j = .int .i64 (Y.length : Int) ∧ M = P'.length + X.length ∧ P'.length + X.length + Y.length + Q'.length = n ∧ F = P' ++ Y ++ X ++ Q' ∧ wr.ownsRow base 3 1 (.slice (some ⟨g, 0, none⟩) n cap) n (cellsN (P' ++ X ++ Y ++ Q')) ∧ w.grownBy wr (some g)) (fun i j _ => (intOf i).toNat + (intOf j).toNat)
 case atStart => exact ⟨P, U, V, Q, hU, hV, rfl, rfl, HM.out, hlen, HF.out, hown, World.grownBy.refl _ _⟩
 case round =>
  obtain ⟨P', X, Y, Q', hX, hY, rfl, rfl, hMe, hl, hFe, how, hgb⟩ := hrel
  have HME := hide hMe
  have HFE := hide hFe
  have hMb : 0 ≤ M - X.length ∧ M + Y.length ≤ n := by omega
  clear hMe hFe HF HM
  rcases (show X.length = Y.length ∨ Y.length < X.length ∨ X.length < Y.length from by omega) with hc | hc | hc
  · have hne : ((X.length : Int) != (Y.length : Int)) = false := by simp; omega
    have hc1 : X.length ≤ Y.length ∧ Y.length ≤ X.length := by omega
    clear hc
    go_wp2_with fail
    refine (swapRange_any base g n cap P' X [] Y Q' _ _ _ fv _ ?_ ?_ ?_ ?_ ?_ hn).mono ?_
    · have := HME.out; omega
    · have := HME.out; simp; omega
    · omega
    · omega
    · simpa using how
    rintro e w1 ⟨rfl, ho1, hg1⟩
    go_wp2
    go_end0
    exact ⟨rfl, by rw [HFE.out]; simpa using ho1, gb_trans hgb hg1⟩
  · have hne : ((X.length : Int) != (Y.length : Int)) = true := by simp; omega
    have hXs : X.take Y.length ++ X.drop Y.length = X := List.take_append_drop _ _
    have hl1 : (X.take Y.length).length = Y.length := by rw [List.length_take]; omega
    have hl2 : (X.drop Y.length).length = X.length - Y.length := List.length_drop ..
    go_wp2_with fail
    refine (swapRange_any base g n cap P' (X.take Y.length) (X.drop Y.length) Y Q' _ _ _ fv _ ?_ ?_ ?_ ?_ ?_ hn).mono ?_
    · have := HME.out; omega
    · have := HME.out; omega
    · omega
    · omega
    · rw [List.append_assoc P', hXs]; exact how
    rintro e w1 ⟨rfl, ho1, hg1⟩
    have hgn := gb_trans hgb hg1
    have hsub : (X.length : Int) - Y.length = ((X.drop Y.length).length : Int) := by omega
    have HXS := hide hXs
    have HL1 := hide hl1
    have HL2 := hide hl2
    clear how hgb hg1 hXs hl1 hl2
    go_wp2
    go_roundw
    case rel => exact ⟨P' ++ Y, X.drop Y.length, X.take Y.length, Q', by rw [HL2.out]; omega, by rw [HL1.out]; omega, by go_num, by rw [HL1.out], by have := HME.out; have := HL2.out; rw [List.length_append]; omega, by rw [List.length_append, HL1.out, HL2.out]; omega, rot_a HFE.out HXS.out, by simpa using ho1, hgn⟩
    case measure => simp [intOf]; omega
  · have hne : ((X.length : Int) != (Y.length : Int)) = true := by simp; omega
    have hYs : Y.take (Y.length - X.length) ++ Y.drop (Y.length - X.length) = Y := List.take_append_drop _ _
    have hl1 : (Y.take (Y.length - X.length)).length = Y.length - X.length := by rw [List.length_take]; omega
    have hl2 : (Y.drop (Y.length - X.length)).length = X.length := by rw [List.length_drop]; omega
    go_wp2_with fail
    refine (swapRange_any base g n cap P' X (Y.take (Y.length - X.length)) (Y.drop (Y.length - X.length)) Q' _ _ _ fv _ ?_ ?_ ?_ ?_ ?_ hn).mono ?_
    · have := HME.out; omega
    · have := HME.out; omega
    · omega
    · omega
    · rw [List.append_assoc (P' ++ X), hYs]; exact how
    rintro e w1 ⟨rfl, ho1, hg1⟩
    have hgn := gb_trans hgb hg1
    have hsub : (Y.length : Int) - X.length = ((Y.take (Y.length - X.length)).length : Int) := by omega
    have HYS := hide hYs
    have HL1 := hide hl1
    have HL2 := hide hl2
    clear how hgb hg1 hYs hl1 hl2
    go_wp2
    go_roundw
    case rel => exact ⟨P', Y.drop (Y.length - X.length), Y.take (Y.length - X.length), X ++ Q', by rw [HL2.out]; omega, by rw [HL1.out]; omega, by rw [HL2.out], by go_num, by have := HME.out; have := HL2.out; omega, by rw [List.length_append, HL1.out, HL2.out]; omega, rot_b HFE.out HYS.out, by simpa using ho1, hgn⟩
    case measure => simp [intOf]; omega
end Go.Proofs.Ytcblpoeeembniaa
