/- SortSwap, SortSymPlain, SortBlocks, SortSymSaidDown, SortSymADown, SortSymBDown, SortSymCADown, SortSymCBDown, SortInsDown, SortAllDown, SortStableDown, Places, SortImplDown: one text. -/
import Derived.Test.YtphdeojiehigpaaGreatDoorPkB
/- The library's swapRange and rotate over a row of places. -/
namespace Go.Proofs.YtphdeojiehigpaaGreatDoor
open Go.RowKit

theorem range_split (P X Y Z Q : List Nat) (k : Nat) (hx : k < X.length) (hz : k < Z.length) :
    P ++ (Z.take k ++ X.drop k) ++ Y ++ (X.take k ++ Z.drop k) ++ Q = (P ++ Z.take k) ++ X[k] :: ((X.drop (k + 1) ++ Y ++ X.take k) ++ Z[k] :: (Z.drop (k + 1) ++ Q)) := by
  rw [List.drop_eq_getElem_cons hx, List.drop_eq_getElem_cons hz]
  simp only [List.append_assoc, List.cons_append]
theorem range_join (P X Y Z Q : List Nat) (k : Nat) (hx : k < X.length) (hz : k < Z.length) :
    (P ++ Z.take k) ++ Z[k] :: ((X.drop (k + 1) ++ Y ++ X.take k) ++ X[k] :: (Z.drop (k + 1) ++ Q)) = P ++ (Z.take (k + 1) ++ X.drop (k + 1)) ++ Y ++ (X.take (k + 1) ++ Z.drop (k + 1)) ++ Q := by
  rw [List.take_succ_eq_append_getElem hx, List.take_succ_eq_append_getElem hz]
  simp only [List.append_assoc, List.cons_append, List.nil_append]

set_option maxHeartbeats 1600000 in
theorem swapRange_any (base g n cap : Nat) (P X Y Z Q : List Nat) (A B N : Int) (fv : Value) (w : World) (hA : A = P.length) (hB : B = P.length + X.length + Y.length) (hN : N = X.length) (hXZ : Z.length = X.length)
    (hown : w.ownsRow base 3 1 (.slice (some ⟨g, 0, none⟩) n cap) n (cellsN (P ++ X ++ Y ++ Z ++ Q))) (hn : n ≤ 1048576) :
    Calls Tryz.prog 209 #[.slice (some ⟨g, 0, none⟩) n cap, .int .i64 A, .int .i64 B, .int .i64 N, fv] w fun e w' =>
      e = .returned (.tuple #[]) ∧ w'.ownsRow base 3 1 (.slice (some ⟨g, 0, none⟩) n cap) n (cellsN (P ++ Z ++ Y ++ X ++ Q)) ∧ w.grownBy w' (some g) := by
  have hlen : P.length + X.length + Y.length + Z.length + Q.length = n := by have := hown.1; simp [cellsN] at this; omega
  have HA := hide hA
  have HB := hide hB
  have HN := hide hN
  have hA0 : 0 ≤ A := by omega
  have hB0 : 0 ≤ B := by omega
  have hAB : A + N ≤ B := by omega
  have hBn : B + N ≤ n := by omega
  clear hA hB hN
  go_enter Tryz.func209, Tryz.ntmps209
  go_wp2
  go_loopw [10] (fun i wr => ∃ k : Nat, k ≤ X.length ∧ i = .int .i64 (k : Int) ∧ wr.ownsRow base 3 1 (.slice (some ⟨g, 0, none⟩) n cap) n (cellsN (P ++ (Z.take k ++ X.drop k) ++ Y ++ (X.take k ++ Z.drop k) ++ Q)) ∧ w.grownBy wr (some g)) (fun i _ => X.length - (intOf i).toNat)
  case atStart => exact ⟨0, Nat.zero_le _, rfl, by simpa using hown, World.grownBy.refl _ _⟩
  case round =>
    obtain ⟨k, hk, rfl, how, hgb⟩ := hrel
    by_cases hlt : k < X.length
    · have hltN : (k : Int) < N := by have := HN.out; omega
      obtain ⟨i, hi⟩ : ∃ i : Nat, A + k = i := ⟨P.length + k, by have := HA.out; omega⟩
      obtain ⟨j, hj⟩ : ∃ j : Nat, B + k = j := ⟨P.length + X.length + Y.length + k, by have := HB.out; omega⟩
      have hi' : i = (P ++ Z.take k).length := by rw [List.length_append, List.length_take]; have := HA.out; omega
      have hj' : j = (P ++ Z.take k).length + 1 + (X.drop (k + 1) ++ Y ++ X.take k).length := by simp; have := HB.out; omega
      have hin : i < n := by have := HA.out; omega
      have hjn : j < n := by omega
      have hij : ¬ i = j := by omega
      rw [range_split P X Y Z Q k hlt (by omega)] at how
      have c1 := own_get how i _ (at_1 _ _ _ _ _ i hi')
      have c2 := own_get how j _ (at_2 _ _ _ _ _ j hj')
      have f1 : wr.frozen? ⟨g, i, none⟩ = false := how.frozenAt i
      have f2 : wr.frozen? ⟨g, j, none⟩ = false := how.frozenAt j
      have HST : Hid (((wr.setCell ⟨g, i, none⟩ (.int .i64 (Z[k] : Int))).setCell ⟨g, j, none⟩ (.int .i64 (X[k] : Int))).ownsRow base 3 1 (.slice (some ⟨g, 0, none⟩) n cap) n (cellsN (P ++ (Z.take (k + 1) ++ X.drop (k + 1)) ++ Y ++ (X.take (k + 1) ++ Z.drop (k + 1)) ++ Q))) := by
        have hst := own_put (own_put how i Z[k]) j X[k]
        rw [swap2 _ _ _ _ _ i j hi' hj', range_join P X Y Z Q k hlt (by omega)] at hst
        exact hst
      have HGB : Hid (w.grownBy ((wr.setCell ⟨g, i, none⟩ (.int .i64 (Z[k] : Int))).setCell ⟨g, j, none⟩ (.int .i64 (X[k] : Int))) (some g)) := gb_set (gb_set hgb i _) j _
      generalize X[k] = x at *
      generalize Z[k] = z at *
      have HI := hide hi'
      have HJ := hide hj'
      clear how hgb hi' hj'
      go_wp2
      go_region
      go_wp2
      go_roundw
      case rel => exact ⟨k + 1, by omega, by go_num, HST.out.drew, ⟨HGB.out.os, HGB.out.tape, HGB.out.output, HGB.out.size, HGB.out.block⟩⟩
      case measure => simp [intOf]; omega
    · have hkk : k = X.length := by omega
      have hltN : ¬ (k : Int) < N := by have := HN.out; omega
      subst hkk
      rw [List.take_length, List.drop_length, List.append_nil, List.take_of_length_le (Nat.le_of_eq hXZ), List.drop_of_length_le (Nat.le_of_eq hXZ), List.append_nil] at how
      go_wp2
      go_end0
      exact ⟨rfl, by simpa only [List.append_assoc] using how, hgb⟩

theorem rot_a {F P X Y Q A B : List Nat} (h : F = P ++ Y ++ X ++ Q) (e : A ++ B = X) : F = P ++ Y ++ A ++ B ++ Q := by
  rw [h, ← e]; simp
theorem rot_b {F P X Y Q A B : List Nat} (h : F = P ++ Y ++ X ++ Q) (e : A ++ B = Y) : F = P ++ A ++ B ++ (X ++ Q) := by
  rw [h, ← e]; simp
theorem gb_trans {w w1 w2 : World} {row : Option Nat} (h : w.grownBy w1 row) (h' : w1.grownBy w2 row) : w.grownBy w2 row :=
  ⟨h'.os.trans h.os, h'.tape.trans h.tape, h'.output.trans h.output, Nat.le_trans h.size h'.size, fun k hk hne => (h'.block k (Nat.lt_of_lt_of_le hk h.size) hne).trans (h.block k hk hne)⟩

set_option maxHeartbeats 1600000 in
theorem rotate_any (base g n cap : Nat) (P U V Q : List Nat) (A M B : Int) (fv : Value) (w : World) (hA : A = P.length) (hM : M = P.length + U.length) (hB : B = P.length + U.length + V.length) (hU : 1 ≤ U.length) (hV : 1 ≤ V.length)
    (hown : w.ownsRow base 3 1 (.slice (some ⟨g, 0, none⟩) n cap) n (cellsN (P ++ U ++ V ++ Q))) (hn : n ≤ 1048576) :
    Calls Tryz.prog 208 #[.slice (some ⟨g, 0, none⟩) n cap, .int .i64 A, .int .i64 M, .int .i64 B, fv] w fun e w' =>
      e = .returned (.tuple #[]) ∧ w'.ownsRow base 3 1 (.slice (some ⟨g, 0, none⟩) n cap) n (cellsN (P ++ V ++ U ++ Q)) ∧ w.grownBy w' (some g) := by
  have hlen : P.length + U.length + V.length + Q.length = n := by have := hown.1; simp [cellsN] at this; omega
  have HM := hide hM
  have h1 : M - A = (U.length : Int) := by omega
  have h2 : B - M = (V.length : Int) := by omega
  have hA0 : 0 ≤ A := by omega
  have hM0 : 0 ≤ M ∧ M ≤ n := by omega
  have hB0 : 0 ≤ B ∧ B ≤ n := by omega
  have HT : Hid (∃ F, F = P ++ V ++ U ++ Q) := ⟨_, rfl⟩
  obtain ⟨F, hF⟩ := HT.out
  have HF := hide hF
  rw [← hF]
  clear hA hM hB hF HT
  go_enter Tryz.func208, Tryz.ntmps208
  go_wp2
  go_loopw [10, 11] (fun i j wr => ∃ (P' X Y Q' : List Nat), 1 ≤ X.length ∧ 1 ≤ Y.length ∧ i = .int .i64 (X.length : Int) ∧ j = .int .i64 (Y.length : Int) ∧ M = P'.length + X.length ∧ P'.length + X.length + Y.length + Q'.length = n ∧ F = P' ++ Y ++ X ++ Q' ∧ wr.ownsRow base 3 1 (.slice (some ⟨g, 0, none⟩) n cap) n (cellsN (P' ++ X ++ Y ++ Q')) ∧ w.grownBy wr (some g)) (fun i j _ => (intOf i).toNat + (intOf j).toNat)
  case atStart => exact ⟨P, U, V, Q, hU, hV, rfl, rfl, HM.out, hlen, HF.out, hown, World.grownBy.refl _ _⟩
  case round =>
    obtain ⟨P', X, Y, Q', hX, hY, rfl, rfl, hMe, hl, hFe, how, hgb⟩ := hrel
    have HME := hide hMe
    have HFE := hide hFe
    have hMb : 0 ≤ M - X.length ∧ M + Y.length ≤ n := by omega
    clear hMe hFe HF HM
    rcases (show X.length = Y.length ∨ Y.length < X.length ∨ X.length < Y.length from by omega) with hc | hc | hc
    · have hne : ((X.length : Int) != (Y.length : Int)) = false := by simp; omega
      have hc1 : X.length ≤ Y.length ∧ Y.length ≤ X.length := by omega
      clear hc
      go_wp2_with fail
      refine (swapRange_any base g n cap P' X [] Y Q' _ _ _ fv _ ?_ ?_ ?_ ?_ ?_ hn).mono ?_
      · have := HME.out; omega
      · have := HME.out; simp; omega
      · omega
      · omega
      · simpa using how
      rintro e w1 ⟨rfl, ho1, hg1⟩
      go_wp2
      go_end0
      exact ⟨rfl, by rw [HFE.out]; simpa using ho1, gb_trans hgb hg1⟩
    · have hne : ((X.length : Int) != (Y.length : Int)) = true := by simp; omega
      have hXs : X.take Y.length ++ X.drop Y.length = X := List.take_append_drop _ _
      have hl1 : (X.take Y.length).length = Y.length := by rw [List.length_take]; omega
      have hl2 : (X.drop Y.length).length = X.length - Y.length := List.length_drop ..
      go_wp2_with fail
      refine (swapRange_any base g n cap P' (X.take Y.length) (X.drop Y.length) Y Q' _ _ _ fv _ ?_ ?_ ?_ ?_ ?_ hn).mono ?_
      · have := HME.out; omega
      · have := HME.out; omega
      · omega
      · omega
      · rw [List.append_assoc P', hXs]; exact how
      rintro e w1 ⟨rfl, ho1, hg1⟩
      have hgn := gb_trans hgb hg1
      have hsub : (X.length : Int) - Y.length = ((X.drop Y.length).length : Int) := by omega
      have HXS := hide hXs
      have HL1 := hide hl1
      have HL2 := hide hl2
      clear how hgb hg1 hXs hl1 hl2
      go_wp2
      go_roundw
      case rel => exact ⟨P' ++ Y, X.drop Y.length, X.take Y.length, Q', by rw [HL2.out]; omega, by rw [HL1.out]; omega, by go_num, by rw [HL1.out], by have := HME.out; have := HL2.out; rw [List.length_append]; omega, by rw [List.length_append, HL1.out, HL2.out]; omega, rot_a HFE.out HXS.out, by simpa using ho1, hgn⟩
      case measure => simp [intOf]; omega
    · have hne : ((X.length : Int) != (Y.length : Int)) = true := by simp; omega
      have hYs : Y.take (Y.length - X.length) ++ Y.drop (Y.length - X.length) = Y := List.take_append_drop _ _
      have hl1 : (Y.take (Y.length - X.length)).length = Y.length - X.length := by rw [List.length_take]; omega
      have hl2 : (Y.drop (Y.length - X.length)).length = X.length := by rw [List.length_drop]; omega
      go_wp2_with fail
      refine (swapRange_any base g n cap P' X (Y.take (Y.length - X.length)) (Y.drop (Y.length - X.length)) Q' _ _ _ fv _ ?_ ?_ ?_ ?_ ?_ hn).mono ?_
      · have := HME.out; omega
      · have := HME.out; omega
      · omega
      · omega
      · rw [List.append_assoc (P' ++ X), hYs]; exact how
      rintro e w1 ⟨rfl, ho1, hg1⟩
      have hgn := gb_trans hgb hg1
      have hsub : (Y.length : Int) - X.length = ((Y.take (Y.length - X.length)).length : Int) := by omega
      have HYS := hide hYs
      have HL1 := hide hl1
      have HL2 := hide hl2
      clear how hgb hg1 hYs hl1 hl2
      go_wp2
      go_roundw
      case rel => exact ⟨P', Y.drop (Y.length - X.length), Y.take (Y.length - X.length), X ++ Q', by rw [HL2.out]; omega, by rw [HL1.out]; omega, by rw [HL2.out], by go_num, by have := HME.out; have := HL2.out; omega, by rw [List.length_append, HL1.out, HL2.out]; omega, rot_b HFE.out HYS.out, by simpa using ho1, hgn⟩
      case measure => simp [intOf]; omega
end Go.Proofs.YtphdeojiehigpaaGreatDoor

/- Plain facts on merging two sorted pieces in place. -/
namespace Go.Proofs.YtphdeojiehigpaaGreatDoor

/-- Where one place is put among sorted ones. -/
theorem put_sorted {keys : List Int} {dn : Bool} {R : List Nat} {x u : Nat} (hR : R.Pairwise (bef keys dn)) (hu : u ≤ R.length)
    (h1 : u = 0 ∨ ∃ y, R[u - 1]? = some y ∧ bef keys dn y x) (h2 : u = R.length ∨ ∃ y, R[u]? = some y ∧ bef keys dn x y) : (R.take u ++ x :: R.drop u).Pairwise (bef keys dn) := by
  have hsp : R = R.take u ++ R.drop u := (List.take_append_drop u R).symm
  have hpw : (R.take u ++ R.drop u).Pairwise (bef keys dn) := by rw [← hsp]; exact hR
  rw [List.pairwise_append] at hpw ⊢
  obtain ⟨p1, p2, p3⟩ := hpw
  have q1 : ∀ z ∈ R.take u, bef keys dn z x := by
    intro z hz
    rcases h1 with h | ⟨y, hy, hyx⟩
    · subst h; simp at hz
    · obtain ⟨i, hi, rfl⟩ := List.mem_take_iff_getElem.1 hz
      obtain ⟨hu1, hy'⟩ := List.getElem?_eq_some_iff.1 hy
      by_cases e : i = u - 1
      · subst e; rw [hy']; exact hyx
      · have := List.pairwise_iff_getElem.1 hR i (u - 1) (by omega) hu1 (by omega)
        rw [hy'] at this
        exact bef_trans this hyx
  have q2 : ∀ z ∈ R.drop u, bef keys dn x z := by
    intro z hz
    rcases h2 with h | ⟨y, hy, hyx⟩
    · subst h; simp at hz
    · obtain ⟨i, hi, rfl⟩ := List.mem_drop_iff_getElem.1 hz
      obtain ⟨hu1, hy'⟩ := List.getElem?_eq_some_iff.1 hy
      by_cases e : i = 0
      · subst e; simp only [Nat.add_zero]; rw [hy']; exact hyx
      · have := List.pairwise_iff_getElem.1 hR u (u + i) hu1 (by omega) (by omega)
        rw [hy'] at this
        exact bef_trans hyx this
  refine ⟨p1, ?_, ?_⟩
  · rw [List.pairwise_cons]; exact ⟨q2, p2⟩
  · intro a ha b hb
    rcases List.mem_cons.1 hb with rfl | hb
    · exact q1 a ha
    · exact p3 a ha b hb

theorem put_perm (R : List Nat) (x u : Nat) : (R.take u ++ x :: R.drop u).Perm ([x] ++ R) := by
  have h : (R.take u ++ x :: R.drop u).Perm (x :: (R.take u ++ R.drop u)) := List.perm_middle
  rwa [List.take_append_drop] at h
theorem put_perm' (R : List Nat) (x u : Nat) : (R.take u ++ x :: R.drop u).Perm (R ++ [x]) :=
  (put_perm R x u).trans List.perm_append_comm

theorem bef_le_left {keys : List Int} {dn : Bool} {L : List Nat} (hL : L.Pairwise (bef keys dn)) {l : Nat} {x z : Nat} (hx : L[l - 1]? = some x) (hl : 1 ≤ l) (hz : z ∈ L.take l) : z = x ∨ bef keys dn z x := by
  obtain ⟨hl1, hx'⟩ := List.getElem?_eq_some_iff.1 hx
  obtain ⟨i, hi, rfl⟩ := List.mem_take_iff_getElem.1 hz
  by_cases e : i = l - 1
  · subst e; exact Or.inl hx'
  · have := List.pairwise_iff_getElem.1 hL i (l - 1) (by omega) hl1 (by omega)
    rw [hx'] at this
    exact Or.inr this
theorem bef_ge_right {keys : List Int} {dn : Bool} {R : List Nat} (hR : R.Pairwise (bef keys dn)) {r : Nat} {y z : Nat} (hy : R[r]? = some y) (hz : z ∈ R.drop r) : z = y ∨ bef keys dn y z := by
  obtain ⟨hr1, hy'⟩ := List.getElem?_eq_some_iff.1 hy
  obtain ⟨i, hi, rfl⟩ := List.mem_drop_iff_getElem.1 hz
  by_cases e : i = 0
  · subst e; exact Or.inl hy'
  · have := List.pairwise_iff_getElem.1 hR r (r + i) hr1 (by omega) (by omega)
    rw [hy'] at this
    exact Or.inr this
theorem bef_mid {keys : List Int} {dn : Bool} {x y z z' : Nat} (h : bef keys dn x y) (h1 : z = x ∨ bef keys dn z x) (h2 : z' = y ∨ bef keys dn y z') : bef keys dn z z' := by
  rcases h1 with rfl | h1 <;> rcases h2 with rfl | h2
  · exact h
  · exact bef_trans h h2
  · exact bef_trans h1 h
  · exact bef_trans h1 (bef_trans h h2)

/-- The two halves of a merge: whatever is in the left half stands ahead of whatever is in the right one. -/
theorem sym_left_right {keys : List Int} {dn : Bool} {L R : List Nat} {l h : Nat} (hL : L.Pairwise (bef keys dn)) (hR : R.Pairwise (bef keys dn)) (hc : ∀ x ∈ L, ∀ y ∈ R, x < y) (hlh : l ≤ h)
    (h1 : l = h - R.length ∨ ∃ x y, L[l - 1]? = some x ∧ R[h - l]? = some y ∧ lts keys dn y x = false ∧ 1 ≤ l) (h2 : l = L.length ∨ l = h ∨ ∃ x y, L[l]? = some x ∧ R[h - l - 1]? = some y ∧ lts keys dn y x = true ∧ l < h) :
    ∀ z ∈ L.take l ++ R.take (h - l), ∀ z' ∈ L.drop l ++ R.drop (h - l), bef keys dn z z' := by
  have pL : (L.take l ++ L.drop l).Pairwise (bef keys dn) := by rw [List.take_append_drop]; exact hL
  have pR : (R.take (h - l) ++ R.drop (h - l)).Pairwise (bef keys dn) := by rw [List.take_append_drop]; exact hR
  rw [List.pairwise_append] at pL pR
  intro z hz z' hz'
  rcases List.mem_append.1 hz with hz | hz <;> rcases List.mem_append.1 hz' with hz' | hz'
  · exact pL.2.2 z hz z' hz'
  · rcases h1 with e | ⟨x, y, hx, hy, hf, hl⟩
    · by_cases e0 : l = 0
      · subst e0; simp at hz
      · rw [List.drop_of_length_le (by omega)] at hz'; simp at hz'
    · have hxm : x ∈ L := List.mem_of_getElem? hx
      have hym : y ∈ R := List.mem_of_getElem? hy
      exact bef_mid (bef_of_not hf (hc x hxm y hym)) (bef_le_left hL hx hl hz) (bef_ge_right hR hy hz')
  · rcases h2 with e | e | ⟨x, y, hx, hy, hf, hl⟩
    · rw [List.drop_of_length_le (by omega)] at hz'; simp at hz'
    · have : h - l = 0 := by omega
      rw [this] at hz; simp at hz
    · exact bef_mid (Or.inl hf) (bef_le_left hR hy (by omega) hz) (bef_ge_right hL hx hz')
  · exact pR.2.2 z hz z' hz'

theorem sym_sorted {keys : List Int} {dn : Bool} {X Y M1 M2 : List Nat} (hx : ∀ z ∈ X, ∀ z' ∈ Y, bef keys dn z z') (p1 : M1.Perm X) (p2 : M2.Perm Y) (s1 : M1.Pairwise (bef keys dn)) (s2 : M2.Pairwise (bef keys dn)) : (M1 ++ M2).Pairwise (bef keys dn) := by
  rw [List.pairwise_append]
  exact ⟨s1, s2, fun a ha b hb => hx a (p1.mem_iff.1 ha) b (p2.mem_iff.1 hb)⟩
theorem sym_perm {L R M1 M2 : List Nat} {l r : Nat} (p1 : M1.Perm (L.take l ++ R.take r)) (p2 : M2.Perm (L.drop l ++ R.drop r)) : (M1 ++ M2).Perm (L ++ R) := by
  refine (p1.append p2).trans ?_
  have e1 : L.take l ++ R.take r ++ (L.drop l ++ R.drop r) = L.take l ++ (R.take r ++ L.drop l) ++ R.drop r := by simp
  have e2 : L ++ R = L.take l ++ (L.drop l ++ R.take r) ++ R.drop r := by
    have h : L.take l ++ (L.drop l ++ R.take r) ++ R.drop r = (L.take l ++ L.drop l) ++ (R.take r ++ R.drop r) := by simp only [List.append_assoc]
    rw [h, List.take_append_drop, List.take_append_drop]
  rw [e1, e2]
  exact (List.perm_append_comm.append_left _).append_right _
theorem take_sorted {keys : List Int} {dn : Bool} {L : List Nat} (h : L.Pairwise (bef keys dn)) (l : Nat) : (L.take l).Pairwise (bef keys dn) := h.sublist (List.take_sublist l L)
theorem drop_sorted {keys : List Int} {dn : Bool} {L : List Nat} (h : L.Pairwise (bef keys dn)) (l : Nat) : (L.drop l).Pairwise (bef keys dn) := h.sublist (List.drop_sublist l L)
theorem rows_split (P L R Q : List Nat) (l r : Nat) : P ++ L ++ R ++ Q = (P ++ L.take l) ++ L.drop l ++ R.take r ++ (R.drop r ++ Q) := by
  have h : (P ++ L.take l) ++ L.drop l ++ R.take r ++ (R.drop r ++ Q) = P ++ (L.take l ++ L.drop l) ++ (R.take r ++ R.drop r) ++ Q := by simp only [List.append_assoc]
  rw [h, List.take_append_drop, List.take_append_drop]
end Go.Proofs.YtphdeojiehigpaaGreatDoor

/- Plain facts on a row of places that is sorted block by block. -/
namespace Go.Proofs.YtphdeojiehigpaaGreatDoor

def seg (D : List Nat) (x y : Nat) : List Nat := (D.drop x).take (y - x)
/-- The piece from x to y is sorted, and holds just the places from x to y. -/
def Srt (keys : List Int) (dn : Bool) (D : List Nat) (x y : Nat) : Prop := (seg D x y).Pairwise (bef keys dn) ∧ (seg D x y).Perm (List.range' x (y - x))
/-- Sorted in blocks of bs. -/
def Blks (keys : List Int) (dn : Bool) (n bs : Nat) (D : List Nat) : Prop := D.length = n ∧ ∀ x, bs ∣ x → x < n → Srt keys dn D x (min (x + bs) n)

theorem seg_len (D : List Nat) (x y : Nat) (h : x ≤ y) (hy : y ≤ D.length) : (seg D x y).length = y - x := by
  unfold seg; rw [List.length_take, List.length_drop]; omega
theorem cut3 (D : List Nat) (x y : Nat) (h : x ≤ y) : D = D.take x ++ seg D x y ++ D.drop y := by
  have e : D.drop y = (D.drop x).drop (y - x) := by rw [List.drop_drop]; congr 1; omega
  unfold seg
  rw [e, List.append_assoc, List.take_append_drop, List.take_append_drop]
theorem seg_split (D : List Nat) (x y z : Nat) (h : x ≤ y) (h' : y ≤ z) : seg D x z = seg D x y ++ seg D y z := by
  unfold seg
  have e : D.drop y = (D.drop x).drop (y - x) := by rw [List.drop_drop]; congr 1; omega
  have e2 : z - x = (y - x) + (z - y) := by omega
  rw [e, e2, List.take_add]
theorem cut4 (D : List Nat) (x y z : Nat) (h : x ≤ y) (h' : y ≤ z) : D = D.take x ++ seg D x y ++ seg D y z ++ D.drop z := by
  rw [List.append_assoc (D.take x), ← seg_split D x y z h h']
  exact cut3 D x z (by omega)

/-- The piece from x to y put anew. -/
def put (D : List Nat) (x y : Nat) (M : List Nat) : List Nat := D.take x ++ M ++ D.drop y
theorem put_len (D : List Nat) (x y : Nat) (M : List Nat) (h : x ≤ y) (hy : y ≤ D.length) (hM : M.length = y - x) : (put D x y M).length = D.length := by
  unfold put; simp; omega
theorem put_seg (D : List Nat) (x y : Nat) (M : List Nat) (h : x ≤ y) (hy : y ≤ D.length) (hM : M.length = y - x) : seg (put D x y M) x y = M := by
  unfold seg put
  have hx : (D.take x).length = x := by rw [List.length_take]; omega
  rw [List.append_assoc, List.drop_append_of_le_length (by omega), List.drop_of_length_le (by omega), List.nil_append, List.take_append_of_le_length (by omega), List.take_of_length_le (by omega)]
theorem put_left (D : List Nat) (x y : Nat) (M : List Nat) (u v : Nat) (hy : x ≤ D.length) (huv : u ≤ v) (hv : v ≤ x) : seg (put D x y M) u v = seg D u v := by
  unfold seg put
  have hx : (D.take x).length = x := by rw [List.length_take]; omega
  rw [List.append_assoc, List.drop_append_of_le_length (by omega), List.take_append_of_le_length (by rw [List.length_drop]; omega), List.drop_take, List.take_take]
  congr 1; omega
theorem put_drop (D : List Nat) (x y : Nat) (M : List Nat) (h : x ≤ y) (hy : y ≤ D.length) (hM : M.length = y - x) (u : Nat) (hu : y ≤ u) : (put D x y M).drop u = D.drop u := by
  unfold put
  have hx : (D.take x ++ M).length = y := by rw [List.length_append, List.length_take]; omega
  rw [List.drop_append, List.drop_of_length_le (by omega), List.nil_append, List.drop_drop]
  congr 1; omega
theorem put_right (D : List Nat) (x y : Nat) (M : List Nat) (h : x ≤ y) (hy : y ≤ D.length) (hM : M.length = y - x) (u v : Nat) (hu : y ≤ u) : seg (put D x y M) u v = seg D u v := by
  unfold seg
  rw [put_drop D x y M h hy hM u hu]

theorem srt_put {keys : List Int} {dn : Bool} {D M : List Nat} {x y : Nat} (h : x ≤ y) (hy : y ≤ D.length) (hp : M.Perm (List.range' x (y - x))) (hs : M.Pairwise (bef keys dn)) : Srt keys dn (put D x y M) x y := by
  have hM : M.length = y - x := by rw [hp.length_eq, List.length_range']
  unfold Srt
  rw [put_seg D x y M h hy hM]
  exact ⟨hs, hp⟩

theorem dvd_step {d x a : Nat} (h1 : d ∣ x) (h2 : d ∣ a) (h : x < a) : x + d ≤ a := by
  obtain ⟨k, rfl⟩ := h1
  obtain ⟨m, rfl⟩ := h2
  have : k < m := Nat.lt_of_mul_lt_mul_left h
  have : d * (k + 1) ≤ d * m := Nat.mul_le_mul_left d this
  rw [Nat.mul_add, Nat.mul_one] at this
  exact this

theorem range_lt (x k : Nat) : (List.range' x k).Pairwise (· < ·) := List.pairwise_lt_range'
theorem mem_rng {x k p : Nat} (h : p ∈ List.range' x k) : x ≤ p ∧ p < x + k := by
  have := List.mem_range'_1.1 h; omega

/-- Two sorted pieces side by side, merged. -/
theorem merged {keys : List Int} {dn : Bool} {D M : List Nat} {x y z : Nat} (hxy : x ≤ y) (hyz : y ≤ z) (h1 : Srt keys dn D x y) (h2 : Srt keys dn D y z) (hp : M.Perm (seg D x y ++ seg D y z)) : M.Perm (List.range' x (z - x)) := by
  refine hp.trans ((h1.2.append h2.2).trans ?_)
  have e : z - x = (y - x) + (z - y) := by omega
  rw [e, ← List.range'_append_1]
  have e2 : x + (y - x) = y := by omega
  rw [e2]
theorem srt_mem {keys : List Int} {dn : Bool} {D : List Nat} {x y p : Nat} (h : Srt keys dn D x y) (hp : p ∈ seg D x y) : x ≤ p ∧ p < x + (y - x) := mem_rng (h.2.mem_iff.1 hp)

/-- A row that is sorted in one block. -/
theorem whole {keys : List Int} {dn : Bool} {D : List Nat} {n : Nat} (hl : D.length = n) (h : Srt keys dn D 0 n) : D = sortP keys dn (List.range n) := by
  have e : seg D 0 n = D := by unfold seg; rw [List.drop_zero, Nat.sub_zero, List.take_of_length_le (by omega)]
  unfold Srt at h
  rw [e, Nat.sub_zero, ← List.range_eq_range'] at h
  exact sortP_eq List.nodup_range h.2 h.1

/-- How far the insertion by blocks of 20 has come. -/
def InvA (keys : List Int) (dn : Bool) (n x : Nat) (D : List Nat) : Prop := D.length = n ∧ 20 ∣ x ∧ x ≤ n ∧ (∀ y, 20 ∣ y → y < x → Srt keys dn D y (y + 20)) ∧ D.drop x = List.range' x (n - x)
theorem invA_start (keys : List Int) (dn : Bool) (n : Nat) : InvA keys dn n 0 (List.range n) :=
  ⟨List.length_range, ⟨0, rfl⟩, Nat.zero_le _, fun _ _ h => absurd h (Nat.not_lt_zero _), by rw [List.drop_zero, Nat.sub_zero, List.range_eq_range']⟩
theorem invA_seg {keys : List Int} {dn : Bool} {n x z : Nat} {D : List Nat} (h : InvA keys dn n x D) (hz : z ≤ n) : seg D x z = List.range' x (z - x) := by
  unfold seg
  rw [h.2.2.2.2]
  by_cases e : x ≤ z
  · have e2 : n - x = (z - x) + (n - z) := by omega
    rw [e2, ← List.range'_append_1, List.take_append_of_le_length (by rw [List.length_range']; exact Nat.le_refl _), List.take_of_length_le (by rw [List.length_range']; exact Nat.le_refl _)]
  · have e3 : z - x = 0 := by omega
    rw [e3]; simp
theorem srt_keep_left {keys : List Int} {dn : Bool} {D M : List Nat} {x y u v : Nat} (hx : x ≤ D.length) (huv : u ≤ v) (hv : v ≤ x) (h : Srt keys dn D u v) : Srt keys dn (put D x y M) u v := by
  unfold Srt at *
  rw [put_left D x y M u v hx huv hv]; exact h
theorem srt_keep_right {keys : List Int} {dn : Bool} {D M : List Nat} {x y u v : Nat} (hxy : x ≤ y) (hy : y ≤ D.length) (hM : M.length = y - x) (hu : y ≤ u) (h : Srt keys dn D u v) : Srt keys dn (put D x y M) u v := by
  unfold Srt at *
  rw [put_right D x y M hxy hy hM u v hu]; exact h
theorem invA_step {keys : List Int} {dn : Bool} {n x : Nat} {D M : List Nat} (h : InvA keys dn n x D) (hx : x + 20 ≤ n) (hp : M.Perm (List.range' x (x + 20 - x))) (hs : M.Pairwise (bef keys dn)) : InvA keys dn n (x + 20) (put D x (x + 20) M) := by
  obtain ⟨h1, h2, h3, h4, h5⟩ := h
  have hM : M.length = x + 20 - x := by rw [hp.length_eq, List.length_range']
  refine ⟨by rw [put_len D x _ M (by omega) (by omega) hM]; exact h1, Nat.dvd_add h2 (Nat.dvd_refl _), hx, ?_, ?_⟩
  · intro y hy hlt
    by_cases e : y = x
    · subst e; exact srt_put (by omega) (by omega) hp hs
    · have hyx : y < x := by
        apply Nat.lt_of_not_le
        intro hle
        have := dvd_step h2 hy (by omega)
        omega
      exact srt_keep_left (by omega) (by omega) (dvd_step hy h2 hyx) (h4 y hy hyx)
  · rw [put_drop D x _ M (by omega) (by omega) hM (x + 20) (Nat.le_refl _)]
    have e : D.drop (x + 20) = (D.drop x).drop 20 := by rw [List.drop_drop]
    rw [e, h5, List.drop_range']
    congr 1 <;> omega
theorem invA_end {keys : List Int} {dn : Bool} {n x : Nat} {D M : List Nat} (h : InvA keys dn n x D) (hx : n < x + 20) (hp : M.Perm (List.range' x (n - x))) (hs : M.Pairwise (bef keys dn)) : Blks keys dn n 20 (put D x n M) := by
  obtain ⟨h1, h2, h3, h4, h5⟩ := h
  have hM : M.length = n - x := by rw [hp.length_eq, List.length_range']
  refine ⟨by rw [put_len D x _ M (by omega) (by omega) hM]; exact h1, ?_⟩
  intro y hy hlt
  by_cases e : y < x
  · have := dvd_step hy h2 e
    rw [Nat.min_eq_left (by omega)]
    exact srt_keep_left (by omega) (by omega) this (h4 y hy e)
  · have e2 : y = x := by
      apply Nat.le_antisymm _ (by omega)
      apply Nat.le_of_not_lt
      intro hlt2
      have := dvd_step h2 hy hlt2
      omega
    subst e2
    rw [Nat.min_eq_right (by omega)]
    exact srt_put h3 (by omega) hp hs

/-- How far a round of merging blocks of bs has come. -/
def InvB (keys : List Int) (dn : Bool) (n bs x : Nat) (D : List Nat) : Prop := D.length = n ∧ 2 * bs ∣ x ∧ x ≤ n ∧ (∀ y, 2 * bs ∣ y → y < x → Srt keys dn D y (y + 2 * bs)) ∧ (∀ y, bs ∣ y → x ≤ y → y < n → Srt keys dn D y (min (y + bs) n))
theorem dvd_half {bs x : Nat} (h : 2 * bs ∣ x) : bs ∣ x := Nat.dvd_trans ⟨2, Nat.mul_comm 2 bs⟩ h
theorem invB_start {keys : List Int} {dn : Bool} {n bs : Nat} {D : List Nat} (h : Blks keys dn n bs D) : InvB keys dn n bs 0 D :=
  ⟨h.1, ⟨0, rfl⟩, Nat.zero_le _, fun _ _ h => absurd h (Nat.not_lt_zero _), fun y hy _ hn => h.2 y hy hn⟩
theorem invB_one {keys : List Int} {dn : Bool} {n bs x : Nat} {D : List Nat} (h : InvB keys dn n bs x D) (hb : 0 < bs) (hx : x + bs ≤ n) : Srt keys dn D x (x + bs) := by
  have := h.2.2.2.2 x (dvd_half h.2.1) (Nat.le_refl _) (by omega)
  rwa [Nat.min_eq_left (by omega)] at this
theorem invB_two {keys : List Int} {dn : Bool} {n bs x z : Nat} {D : List Nat} (h : InvB keys dn n bs x D) (hx : x + bs < n) (hz : z = min (x + bs + bs) n) : Srt keys dn D (x + bs) z := by
  rw [hz]
  exact h.2.2.2.2 (x + bs) (Nat.dvd_add (dvd_half h.2.1) (Nat.dvd_refl _)) (by omega) hx
theorem invB_step {keys : List Int} {dn : Bool} {n bs x : Nat} {D M : List Nat} (h : InvB keys dn n bs x D) (hb : 0 < bs) (hx : x + 2 * bs ≤ n) (hp : M.Perm (List.range' x (x + 2 * bs - x))) (hs : M.Pairwise (bef keys dn)) : InvB keys dn n bs (x + 2 * bs) (put D x (x + 2 * bs) M) := by
  obtain ⟨h1, h2, h3, h4, h5⟩ := h
  have hM : M.length = x + 2 * bs - x := by rw [hp.length_eq, List.length_range']
  refine ⟨by rw [put_len D x _ M (by omega) (by omega) hM]; exact h1, Nat.dvd_add h2 (Nat.dvd_refl _), hx, ?_, ?_⟩
  · intro y hy hlt
    by_cases e : y = x
    · subst e; exact srt_put (by omega) (by omega) hp hs
    · have hyx : y < x := by
        apply Nat.lt_of_not_le
        intro hle
        have := dvd_step h2 hy (by omega)
        omega
      exact srt_keep_left (by omega) (by omega) (dvd_step hy h2 hyx) (h4 y hy hyx)
  · intro y hy hle hlt
    exact srt_keep_right (by omega) (by omega) hM hle (h5 y hy (by omega) hlt)
theorem invB_merge {keys : List Int} {dn : Bool} {n bs x : Nat} {D M : List Nat} (h : InvB keys dn n bs x D) (hx : n < x + 2 * bs) (hp : M.Perm (List.range' x (n - x))) (hs : M.Pairwise (bef keys dn)) : Blks keys dn n (2 * bs) (put D x n M) := by
  obtain ⟨h1, h2, h3, h4, h5⟩ := h
  have hM : M.length = n - x := by rw [hp.length_eq, List.length_range']
  refine ⟨by rw [put_len D x _ M (by omega) (by omega) hM]; exact h1, ?_⟩
  intro y hy hlt
  by_cases e : y < x
  · have := dvd_step hy h2 e
    rw [Nat.min_eq_left (by omega)]
    exact srt_keep_left (by omega) (by omega) this (h4 y hy e)
  · have e2 : y = x := by
      apply Nat.le_antisymm _ (by omega)
      apply Nat.le_of_not_lt
      intro hlt2
      have := dvd_step h2 hy hlt2
      omega
    subst e2
    rw [Nat.min_eq_right (by omega)]
    exact srt_put h3 (by omega) hp hs
theorem invB_end {keys : List Int} {dn : Bool} {n bs x : Nat} {D : List Nat} (h : InvB keys dn n bs x D) (hx : n < x + 2 * bs) (hx2 : n ≤ x + bs) : Blks keys dn n (2 * bs) D := by
  obtain ⟨h1, h2, h3, h4, h5⟩ := h
  refine ⟨h1, ?_⟩
  intro y hy hlt
  by_cases e : y < x
  · have := dvd_step hy h2 e
    rw [Nat.min_eq_left (by omega)]
    exact h4 y hy e
  · have e2 : y = x := by
      apply Nat.le_antisymm _ (by omega)
      apply Nat.le_of_not_lt
      intro hlt2
      have := dvd_step h2 hy hlt2
      omega
    subst e2
    have := h5 y (dvd_half h2) (Nat.le_refl _) hlt
    rw [Nat.min_eq_right (by omega)] at this ⊢
    exact this
theorem blk_end {keys : List Int} {dn : Bool} {n bs : Nat} {D : List Nat} (h : Blks keys dn n bs D) (hb : n ≤ bs) : D = sortP keys dn (List.range n) := by
  by_cases hn : n = 0
  · subst hn
    have := List.length_eq_zero_iff.1 h.1
    subst this
    exact sortP_eq List.nodup_range (List.Perm.refl _) List.Pairwise.nil
  · have := h.2 0 ⟨0, rfl⟩ (by omega)
    rw [Nat.zero_add, Nat.min_eq_right hb] at this
    exact whole h.1 this
end Go.Proofs.YtphdeojiehigpaaGreatDoor

/- What the library's symMerge does (Down), as one sentence over how long the two pieces are together. -/
namespace Go.Proofs.YtphdeojiehigpaaGreatDoor
open Go.RowKit

def SymSaidDown (base g n cap bx : Nat) (ak : Option Addr) (nk ck : Nat) (keys : List Int) (N : Nat) : Prop :=
  ∀ (P L R Q : List Nat) (A M B : Int) (w : World), L.length + R.length ≤ N → 1 ≤ L.length → 1 ≤ R.length → A = P.length → M = P.length + L.length → B = P.length + L.length + R.length →
    w.ownsRow base 3 1 (.slice (some ⟨g, 0, none⟩) n cap) n (cellsN (P ++ L ++ R ++ Q)) → Keys w bx ak nk ck keys →
    L.Pairwise (bef keys true) → R.Pairwise (bef keys true) → (∀ x ∈ L, ∀ y ∈ R, x < y) → (∀ p ∈ L ++ R, p < nk) →
    Calls Tryz.prog 207 #[.slice (some ⟨g, 0, none⟩) n cap, .int .i64 A, .int .i64 M, .int .i64 B, .func (Fn.func 202) #[] #[.pointer (some ⟨bx, 0, none⟩)]] w fun e w' =>
      e = .returned (.tuple #[]) ∧ ∃ M', M'.Perm (L ++ R) ∧ M'.Pairwise (bef keys true) ∧ w'.ownsRow base 3 1 (.slice (some ⟨g, 0, none⟩) n cap) n (cellsN (P ++ M' ++ Q)) ∧ w.grownBy w' (some g)
end Go.Proofs.YtphdeojiehigpaaGreatDoor

/- The library's symMerge where the left piece is one place (Down). -/
namespace Go.Proofs.YtphdeojiehigpaaGreatDoor
open Go.RowKit

set_option maxRecDepth 100000 in
set_option maxHeartbeats 3200000 in
theorem symLeftDown (base g n cap bx : Nat) (ak : Option Addr) (nk ck : Nat) (keys : List Int) (P R Q : List Nat) (x : Nat) (A M B : Int) (w : World)
    (hA : A = P.length) (hM : M = P.length + 1) (hB : B = P.length + 1 + R.length) (hR0 : 1 ≤ R.length)
    (hown : w.ownsRow base 3 1 (.slice (some ⟨g, 0, none⟩) n cap) n (cellsN (P ++ [x] ++ R ++ Q))) (hk : Keys w bx ak nk ck keys) (hbx : bx ≠ g) (hak : ∀ x, ak = some x → x.block ≠ g)
    (hRs : R.Pairwise (bef keys true)) (hxR : ∀ y ∈ R, x < y) (hin : ∀ p ∈ R, p < nk) (hinx : x < nk) (hn : n ≤ 1048576) :
    Calls Tryz.prog 207 #[.slice (some ⟨g, 0, none⟩) n cap, .int .i64 A, .int .i64 M, .int .i64 B, .func (Fn.func 202) #[] #[.pointer (some ⟨bx, 0, none⟩)]] w fun e w' =>
      e = .returned (.tuple #[]) ∧ ∃ M', M'.Perm ([x] ++ R) ∧ M'.Pairwise (bef keys true) ∧ w'.ownsRow base 3 1 (.slice (some ⟨g, 0, none⟩) n cap) n (cellsN (P ++ M' ++ Q)) ∧ w.grownBy w' (some g) := by
  have hlen : P.length + 1 + R.length + Q.length = n := by have := hown.1; simp [cellsN] at this; omega
  obtain ⟨a, ha⟩ : ∃ a, a = P.length := ⟨_, rfl⟩
  rw [← ha] at hA hM hB hlen
  subst hA hM hB
  have HA := hide ha
  clear ha
  have hma : ((a : Int) + 1 - (a : Int) == 1) = true := by simp; omega
  go_enter Tryz.func207, Tryz.ntmps207
  go_wp2
  go_loopw [10, 11, 12] (fun i j _ wr => ∃ (u v : Nat), u ≤ v ∧ v ≤ R.length ∧ i = .int .i64 ((a : Int) + 1 + u) ∧ j = .int .i64 ((a : Int) + 1 + v) ∧ (u = 0 ∨ ∃ y, R[u - 1]? = some y ∧ bef keys true y x) ∧ (v = R.length ∨ ∃ y, R[v]? = some y ∧ bef keys true x y) ∧ wr.ownsRow base 3 1 (.slice (some ⟨g, 0, none⟩) n cap) n (cellsN (P ++ [x] ++ R ++ Q)) ∧ w.grownBy wr (some g)) (fun i j _ _ => (intOf j - intOf i).toNat)
  case atStart => exact ⟨0, R.length, Nat.zero_le _, Nat.le_refl _, by go_num, by go_num, Or.inl rfl, Or.inl rfl, hown, World.grownBy.refl _ _⟩
  case round =>
    obtain ⟨u, v, huv, hvR, rfl, rfl, h1, h2, hown1, hgb1⟩ := hrel
    have hk1 := hk.grown hgb1 hbx hak
    clear hown hk
    have H1 := hide h1
    have H2 := hide h2
    clear h1 h2
    by_cases hlt : u < v
    · obtain ⟨q, hq⟩ : ∃ q : Nat, q = (u + v) / 2 := ⟨_, rfl⟩
      obtain ⟨h, hh⟩ : ∃ h : Nat, ((a : Int) + 1 + u + ((a : Int) + 1 + v)) / 2 = (h : Int) := ⟨a + 1 + q, by omega⟩
      have hqv : u ≤ q ∧ q < v := by omega
      have hhq : h = a + 1 + q := by omega
      have hhn : h < n := by omega
      have han : a < n := by omega
      have hqR : q < R.length := by omega
      have c1 : wr.cell? ⟨g, h, none⟩ = some (.int .i64 (R[q] : Int)) := own_get hown1 h _ (by rw [hhq, HA.out]; exact at_R P R Q x q hqR)
      have c0 : wr.cell? ⟨g, a, none⟩ = some (.int .i64 (x : Int)) := own_get hown1 a _ (by rw [HA.out]; exact at_x P R Q x)
      have hiny : R[q] < nk := hin _ (List.getElem_mem hqR)
      have hxy : x < R[q] := hxR _ (List.getElem_mem hqR)
      have hRq : R[q]? = some R[q] := List.getElem?_eq_getElem hqR
      generalize R[q] = y at *
      have hcmp := cmpDown_any y x bx ak nk ck keys
      have hiff := cmp_lt_down keys y x
      have HCMP := hide hcmp
      have HKEYS := hide hk1
      have HOW := hide hown1
      have HGB := hide hgb1
      have HQ := hide hq
      have HHQ := hide hhq
      have HRQ := hide hRq
      clear hcmp hq hhq hk1 hRq hown1 hgb1
      by_cases hlts : lts keys true y x = true
      · have hneg := hiff.2 hlts
        have HB : Hid (bef keys true y x) := Or.inl hlts
        generalize cmpI (keys.getD x 0) (keys.getD y 0) = c at *
        clear hiff hlts
        go_wp2
        go_quiet ((go_at_call 202; exact Calls.quiet_of (HCMP.out _ (HKEYS.out.drewN _) hiny hinx)))
        go_wp2
        go_roundw
        case rel => exact ⟨q + 1, v, by omega, hvR, by have := HHQ.out; go_num, rfl, Or.inr ⟨y, by simpa using HRQ.out, HB.out⟩, H2.out, own_drew HOW.out _, gb_drew HGB.out _⟩
        case measure => simp [intOf]; have := HHQ.out; omega
      · have hneg : ¬ cmpI (keys.getD x 0) (keys.getD y 0) < 0 := fun h => hlts (hiff.1 h)
        have HB : Hid (bef keys true x y) := bef_of_not (by simpa using hlts) hxy
        generalize cmpI (keys.getD x 0) (keys.getD y 0) = c at *
        clear hiff hlts
        go_wp2
        go_quiet ((go_at_call 202; exact Calls.quiet_of (HCMP.out _ (HKEYS.out.drewN _) hiny hinx)))
        go_wp2
        go_roundw
        case rel => exact ⟨u, q, by omega, by omega, rfl, by have := HHQ.out; go_num, H1.out, Or.inr ⟨y, HRQ.out, HB.out⟩, own_drew HOW.out _, gb_drew HGB.out _⟩
        case measure => simp [intOf]; have := HHQ.out; omega
    · have huv' : u = v := by omega
      subst huv'
      have hfin := put_sorted hRs hvR H1.out H2.out
      have HFIN := hide hfin
      clear hfin H1 H2 hRs hlt huv hk1
      obtain ⟨wo, rfl⟩ : ∃ wo : World, wo = wr := ⟨_, rfl⟩
      go_wp2
      go_loopw [13] (fun k wr => ∃ (t : Nat), t ≤ u ∧ k = .int .i64 ((a : Int) + t) ∧ wr.ownsRow base 3 1 (.slice (some ⟨g, 0, none⟩) n cap) n (cellsN (P ++ R.take t ++ x :: (R.drop t ++ Q))) ∧ w.grownBy wr (some g)) (fun k _ => ((a : Int) + u - intOf k).toNat)
      case atStart => exact ⟨0, Nat.zero_le _, by go_num, by simpa using hown1, hgb1⟩
      case round =>
        obtain ⟨t, htu, rfl, how, hgb⟩ := hrel
        by_cases ht : t < u
        · have htR : t < R.length := by omega
          obtain ⟨i, hi⟩ : ∃ i : Nat, (a : Int) + t = (i : Int) := ⟨a + t, by omega⟩
          have hi' : i = (P ++ R.take t).length := by rw [List.length_append, List.length_take, ← HA.out]; omega
          have hin1 : i + 1 < n := by omega
          rw [List.drop_eq_getElem_cons htR] at how
          have c1 := own_get how i _ (at_1 (P ++ R.take t) [] (R.drop (t + 1) ++ Q) x R[t] i hi')
          have c2 := own_get how (i + 1) _ (at_2 (P ++ R.take t) [] (R.drop (t + 1) ++ Q) x R[t] (i + 1) (by rw [hi']; rfl))
          have f1 : wr.frozen? ⟨g, i, none⟩ = false := how.frozenAt i
          have f2 : wr.frozen? ⟨g, i + 1, none⟩ = false := how.frozenAt (i + 1)
          have HST : Hid (((wr.setCell ⟨g, i, none⟩ (.int .i64 (R[t] : Int))).setCell ⟨g, i + 1, none⟩ (.int .i64 (x : Int))).ownsRow base 3 1 (.slice (some ⟨g, 0, none⟩) n cap) n (cellsN (P ++ R.take (t + 1) ++ x :: (R.drop (t + 1) ++ Q)))) := by
            have hst := own_put (own_put how i R[t]) (i + 1) x
            have e := swap2 (P ++ R.take t) [] (R.drop (t + 1) ++ Q) x R[t] i (i + 1) hi' (by rw [hi']; rfl)
            simp only [List.nil_append] at e
            rw [List.cons_append, e, row_step P R _ x t htR] at hst
            exact hst
          have HGB : Hid (w.grownBy ((wr.setCell ⟨g, i, none⟩ (.int .i64 (R[t] : Int))).setCell ⟨g, i + 1, none⟩ (.int .i64 (x : Int))) (some g)) := gb_set (gb_set hgb i _) (i + 1) _
          generalize R[t] = z at *
          have HI := hide hi'
          clear how hgb hi' hown1 hgb1
          go_wp2
          go_region
          go_wp2
          go_roundw
          case rel => exact ⟨t + 1, by omega, by go_num, HST.out.drew, ⟨HGB.out.os, HGB.out.tape, HGB.out.output, HGB.out.size, HGB.out.block⟩⟩
          case measure => simp [intOf]; omega
        · have htu' : t = u := by omega
          subst htu'
          go_wp2
          first | go_end0 | refine bodyPost_ret (results_none rfl _ _ _) rfl ?_
          exact ⟨rfl, _, put_perm R x t, HFIN.out, by simpa using how, hgb⟩
end Go.Proofs.YtphdeojiehigpaaGreatDoor

/- The library's symMerge where the right piece is one place, and the left one more (Down). -/
namespace Go.Proofs.YtphdeojiehigpaaGreatDoor
open Go.RowKit

set_option maxRecDepth 100000 in
set_option maxHeartbeats 3200000 in
theorem symRightDown (base g n cap bx : Nat) (ak : Option Addr) (nk ck : Nat) (keys : List Int) (P L Q : List Nat) (y : Nat) (A M B : Int) (w : World)
    (hA : A = P.length) (hM : M = P.length + L.length) (hB : B = P.length + L.length + 1) (hL0 : 2 ≤ L.length)
    (hown : w.ownsRow base 3 1 (.slice (some ⟨g, 0, none⟩) n cap) n (cellsN (P ++ L ++ [y] ++ Q))) (hk : Keys w bx ak nk ck keys) (hbx : bx ≠ g) (hak : ∀ x, ak = some x → x.block ≠ g)
    (hLs : L.Pairwise (bef keys true)) (hLy : ∀ x ∈ L, x < y) (hin : ∀ p ∈ L, p < nk) (hiny : y < nk) (hn : n ≤ 1048576) :
    Calls Tryz.prog 207 #[.slice (some ⟨g, 0, none⟩) n cap, .int .i64 A, .int .i64 M, .int .i64 B, .func (Fn.func 202) #[] #[.pointer (some ⟨bx, 0, none⟩)]] w fun e w' =>
      e = .returned (.tuple #[]) ∧ ∃ M', M'.Perm (L ++ [y]) ∧ M'.Pairwise (bef keys true) ∧ w'.ownsRow base 3 1 (.slice (some ⟨g, 0, none⟩) n cap) n (cellsN (P ++ M' ++ Q)) ∧ w.grownBy w' (some g) := by
  have hlen : P.length + L.length + 1 + Q.length = n := by have := hown.1; simp [cellsN] at this; omega
  obtain ⟨a, ha⟩ : ∃ a, a = P.length := ⟨_, rfl⟩
  obtain ⟨m, hm⟩ : ∃ m, m = P.length + L.length := ⟨_, rfl⟩
  have hA' : A = (a : Int) := by omega
  have hM' : M = (m : Int) := by omega
  have hB' : B = (m : Int) + 1 := by omega
  have ham : a + L.length = m := by omega
  have hmn : m + 1 + Q.length = n := by omega
  subst hA' hM' hB'
  have HA := hide ha
  have HMM := hide hm
  clear hA hM hB ha hm hlen
  have hma : ((m : Int) - (a : Int) == 1) = false := by simp; omega
  have hbm : ((m : Int) + 1 - (m : Int) == 1) = true := by simp; omega
  have HAM := hide ham
  have ham2 : a + 2 ≤ m := by omega
  have hmn2 : m < n := by omega
  clear ham hmn
  go_enter Tryz.func207, Tryz.ntmps207
  go_wp2
  go_loopw [14, 15, 16] (fun i j _ wr => ∃ (u v : Nat), u ≤ v ∧ v ≤ L.length ∧ i = .int .i64 ((a : Int) + u) ∧ j = .int .i64 ((a : Int) + v) ∧ (u = 0 ∨ ∃ x, L[u - 1]? = some x ∧ bef keys true x y) ∧ (v = L.length ∨ ∃ x, L[v]? = some x ∧ bef keys true y x) ∧ wr.ownsRow base 3 1 (.slice (some ⟨g, 0, none⟩) n cap) n (cellsN (P ++ L ++ [y] ++ Q)) ∧ w.grownBy wr (some g)) (fun i j _ _ => (intOf j - intOf i).toNat)
  case atStart => exact ⟨0, L.length, Nat.zero_le _, Nat.le_refl _, by go_num, by have := HAM.out; go_num, Or.inl rfl, Or.inl rfl, hown, World.grownBy.refl _ _⟩
  case round =>
    obtain ⟨u, v, huv, hvL, rfl, rfl, h1, h2, hown1, hgb1⟩ := hrel
    have hk1 := hk.grown hgb1 hbx hak
    clear hown hk
    have H1 := hide h1
    have H2 := hide h2
    have havm : a + v ≤ m := by have := HAM.out; omega
    clear h1 h2
    by_cases hlt : u < v
    · obtain ⟨q, hq⟩ : ∃ q : Nat, q = (a + u + (a + v)) / 2 - a := ⟨_, rfl⟩
      obtain ⟨h, hh⟩ : ∃ h : Nat, ((a : Int) + u + ((a : Int) + v)) / 2 = (h : Int) := ⟨a + q, by omega⟩
      have hqv : u ≤ q ∧ q < v := by omega
      have hhq : h = a + q := by omega
      have hhn : h < n := by omega
      have hqL : q < L.length := by omega
      have c1 : wr.cell? ⟨g, h, none⟩ = some (.int .i64 (L[q] : Int)) := own_get hown1 h _ (by rw [hhq, HA.out]; exact at_L P L _ Q q hqL)
      have c0 : wr.cell? ⟨g, m, none⟩ = some (.int .i64 (y : Int)) := own_get hown1 m _ (by rw [HMM.out]; exact at_y P L Q y)
      have hinx : L[q] < nk := hin _ (List.getElem_mem hqL)
      have hxy : L[q] < y := hLy _ (List.getElem_mem hqL)
      have hLq : L[q]? = some L[q] := List.getElem?_eq_getElem hqL
      generalize L[q] = x at *
      have hcmp := cmpDown_any y x bx ak nk ck keys
      have hiff := cmp_lt_down keys y x
      have HCMP := hide hcmp
      have HKEYS := hide hk1
      have HOW := hide hown1
      have HGB := hide hgb1
      have HQ := hide hq
      have HHQ := hide hhq
      have HLQ := hide hLq
      clear hcmp hq hhq hk1 hLq hown1 hgb1
      by_cases hlts : lts keys true y x = true
      · have hneg := hiff.2 hlts
        have HB : Hid (bef keys true y x) := Or.inl hlts
        generalize cmpI (keys.getD x 0) (keys.getD y 0) = c at *
        clear hiff hlts
        go_wp2
        go_quiet ((go_at_call 202; exact Calls.quiet_of (HCMP.out _ (HKEYS.out.drewN _) hiny hinx)))
        go_wp2
        go_roundw
        case rel => exact ⟨u, q, by omega, by omega, rfl, by have := HHQ.out; go_num, H1.out, Or.inr ⟨x, HLQ.out, HB.out⟩, own_drew HOW.out _, gb_drew HGB.out _⟩
        case measure => simp [intOf]; have := HHQ.out; omega
      · have hneg : ¬ cmpI (keys.getD x 0) (keys.getD y 0) < 0 := fun h => hlts (hiff.1 h)
        have HB : Hid (bef keys true x y) := bef_of_not (by simpa using hlts) hxy
        generalize cmpI (keys.getD x 0) (keys.getD y 0) = c at *
        have hd : decide (c < 0) = false := by simpa using hneg
        clear hiff hlts
        go_wp2
        go_quiet ((go_at_call 202; exact Calls.quiet_of (HCMP.out _ (HKEYS.out.drewN _) hiny hinx)))
        go_wp2
        go_roundw
        case rel => exact ⟨q + 1, v, by omega, hvL, by have := HHQ.out; go_num, rfl, Or.inr ⟨x, by simpa using HLQ.out, HB.out⟩, H2.out, own_drew HOW.out _, gb_drew HGB.out _⟩
        case measure => simp [intOf]; have := HHQ.out; omega
    · have huv' : u = v := by omega
      subst huv'
      have hfin := put_sorted hLs hvL H1.out H2.out
      have HFIN := hide hfin
      clear hfin H1 H2 hLs hlt huv hk1
      obtain ⟨wo, rfl⟩ : ∃ wo : World, wo = wr := ⟨_, rfl⟩
      go_wp2
      go_loopw [17] (fun k wr => ∃ (t : Nat), u ≤ t ∧ t ≤ L.length ∧ k = .int .i64 ((a : Int) + t) ∧ wr.ownsRow base 3 1 (.slice (some ⟨g, 0, none⟩) n cap) n (cellsN (P ++ L.take t ++ y :: (L.drop t ++ Q))) ∧ w.grownBy wr (some g)) (fun k _ => (intOf k).toNat)
      case atStart => exact ⟨L.length, hvL, Nat.le_refl _, by have := HAM.out; go_num, by simpa using hown1, hgb1⟩
      case round =>
        obtain ⟨t, hut, htL, rfl, how, hgb⟩ := hrel
        by_cases ht : u < t
        · obtain ⟨t', rfl⟩ : ∃ t', t = t' + 1 := ⟨t - 1, by omega⟩
          have htL' : t' < L.length := by omega
          obtain ⟨i, hi⟩ : ∃ i : Nat, i = a + t' := ⟨_, rfl⟩
          have hi1 : (a : Int) + ((t' + 1 : Nat) : Int) = (i : Int) + 1 := by omega
          have hi2 : (i : Int) + 1 - 1 = (i : Int) := by omega
          have hi' : i = P.length + (L.take t').length := by rw [List.length_take, ← HA.out]; omega
          have hin1 : i + 1 < n := by have := HAM.out; omega
          have hui : (a : Int) + u < (i : Int) + 1 := by omega
          rw [List.take_succ_eq_append_getElem htL'] at how
          have c1 := own_get how (i + 1) _ (by rw [hi']; exact mid_x P (L.take t') (L.drop (t' + 1) ++ Q) y L[t'])
          have c2 := own_get how i _ (by rw [hi']; exact mid_y P (L.take t') (L.drop (t' + 1) ++ Q) y L[t'])
          have f1 : wr.frozen? ⟨g, i, none⟩ = false := how.frozenAt i
          have f2 : wr.frozen? ⟨g, i + 1, none⟩ = false := how.frozenAt (i + 1)
          have HST : Hid (((wr.setCell ⟨g, i + 1, none⟩ (.int .i64 (L[t'] : Int))).setCell ⟨g, i, none⟩ (.int .i64 (y : Int))).ownsRow base 3 1 (.slice (some ⟨g, 0, none⟩) n cap) n (cellsN (P ++ L.take t' ++ y :: (L.drop t' ++ Q)))) := by
            have hst := own_put (own_put how (i + 1) L[t']) i y
            rw [swap_mid P (L.take t') (L.drop (t' + 1) ++ Q) L[t'] y i hi'] at hst
            rw [List.drop_eq_getElem_cons htL']
            exact hst
          have HGB : Hid (w.grownBy ((wr.setCell ⟨g, i + 1, none⟩ (.int .i64 (L[t'] : Int))).setCell ⟨g, i, none⟩ (.int .i64 (y : Int))) (some g)) := gb_set (gb_set hgb (i + 1) _) i _
          generalize L[t'] = z at *
          have HI := hide hi
          clear how hgb hi' hown1 hgb1 hi
          rw [hi1]
          clear hi1
          go_wp2
          go_region
          go_wp2
          go_roundw
          case rel => exact ⟨t', by omega, by omega, by have := HI.out; go_num, HST.out.drew, ⟨HGB.out.os, HGB.out.tape, HGB.out.output, HGB.out.size, HGB.out.block⟩⟩
          case measure => simp [intOf]
        · have htu' : t = u := by omega
          subst htu'
          go_wp2
          first | go_end0 | refine bodyPost_ret (results_none rfl _ _ _) rfl ?_
          exact ⟨rfl, _, put_perm' L y t, HFIN.out, by simpa using how, hgb⟩
end Go.Proofs.YtphdeojiehigpaaGreatDoor

/- The library's symMerge: its recursive step (Down, A). -/
namespace Go.Proofs.YtphdeojiehigpaaGreatDoor
open Go.RowKit

set_option maxRecDepth 100000 in
set_option maxHeartbeats 12800000 in
theorem symStepDownA (base g n cap bx : Nat) (ak : Option Addr) (nk ck : Nat) (keys : List Int) (N : Nat) (ih : SymSaidDown base g n cap bx ak nk ck keys N) (hbx : bx ≠ g) (hak : ∀ x, ak = some x → x.block ≠ g) (hn : n ≤ 1048576)
    (P L R Q : List Nat) (a m b mid : Nat) (w : World) (hN : L.length + R.length ≤ N + 1) (ha : a = P.length) (hm : m = P.length + L.length) (hb : b = P.length + L.length + R.length) (hL0 : 2 ≤ L.length) (hR0 : 2 ≤ R.length) (hmid : mid = (a + b) / 2) (hmm : mid < m)
    (hown : w.ownsRow base 3 1 (.slice (some ⟨g, 0, none⟩) n cap) n (cellsN (P ++ L ++ R ++ Q))) (hk : Keys w bx ak nk ck keys)
    (hLs : L.Pairwise (bef keys true)) (hRs : R.Pairwise (bef keys true)) (hLR : ∀ x ∈ L, ∀ y ∈ R, x < y) (hin : ∀ p ∈ L ++ R, p < nk) :
    Calls Tryz.prog 207 #[.slice (some ⟨g, 0, none⟩) n cap, .int .i64 (a : Int), .int .i64 (m : Int), .int .i64 (b : Int), .func (Fn.func 202) #[] #[.pointer (some ⟨bx, 0, none⟩)]] w fun e w' =>
      e = .returned (.tuple #[]) ∧ ∃ M', M'.Perm (L ++ R) ∧ M'.Pairwise (bef keys true) ∧ w'.ownsRow base 3 1 (.slice (some ⟨g, 0, none⟩) n cap) n (cellsN (P ++ M' ++ Q)) ∧ w.grownBy w' (some g) := by
  have hlen : P.length + L.length + R.length + Q.length = n := by have := hown.1; simp [cellsN] at this; omega
  obtain ⟨h, hh⟩ : ∃ h, h = mid - a := ⟨_, rfl⟩
  have HA := hide ha
  have HM := hide hm
  have HBB := hide hb
  have HH := hide hh
  have HL := hide (show a + L.length = m by omega)
  have HR := hide (show m + R.length = b by omega)
  have HIH := hide ih
  have ham2 : a + 2 ≤ m := by omega
  have hmb2 : m + 2 ≤ b := by omega
  have hbn : b ≤ n := by omega
  have hmid1 : a < mid ∧ mid < b := by omega
  have HMID := hide hmid
  have hma : ((m : Int) - (a : Int) == 1) = false := by simp; omega
  have hbm : ((b : Int) - (m : Int) == 1) = false := by simp; omega
  have hmide : ((a : Int) + (b : Int)) / 2 = (mid : Int) := by omega
  obtain ⟨nn, hnn⟩ : ∃ nn : Nat, (mid : Int) + (m : Int) = (nn : Int) := ⟨mid + m, by omega⟩
  have HNN := hide (show nn = mid + m by omega)
  have hnnb : nn ≤ 2097152 := by omega
  have hpp : (nn : Int) - 1 = ((nn - 1 : Nat) : Int) := by omega
  obtain ⟨pp, hpp'⟩ : ∃ pp : Nat, pp = nn - 1 := ⟨_, rfl⟩
  rw [← hpp'] at hpp
  have HPP := hide (show pp + 1 = mid + m by omega)
  obtain ⟨st, hst⟩ : ∃ st : Nat, (nn : Int) - (b : Int) = (st : Int) := ⟨mid + m - b, by omega⟩
  have HST := hide (show st = mid + m - b by omega)
  have HNB := hide hN
  clear ha hm hb hmid ih hlen hh hpp' hN
  go_enter Tryz.func207, Tryz.ntmps207
  go_wp2
  go_loopw [20, 21, 23] (fun i j _ wr => ∃ (l r : Nat), h - R.length ≤ l ∧ l ≤ r ∧ r ≤ h ∧ r ≤ L.length ∧ i = .int .i64 ((a : Int) + l) ∧ j = .int .i64 ((a : Int) + r) ∧ (l = h - R.length ∨ ∃ x y, L[l - 1]? = some x ∧ R[h - l]? = some y ∧ lts keys true y x = false ∧ 1 ≤ l) ∧ (r = L.length ∨ r = h ∨ ∃ x y, L[r]? = some x ∧ R[h - r - 1]? = some y ∧ lts keys true y x = true ∧ r < h) ∧ wr.ownsRow base 3 1 (.slice (some ⟨g, 0, none⟩) n cap) n (cellsN (P ++ L ++ R ++ Q)) ∧ w.grownBy wr (some g)) (fun i j _ _ => (intOf j - intOf i).toNat)
  case atStart =>
    have e1 := HL.out
    have e2 := HR.out
    have e3 := HH.out
    have e4 := HMID.out
    have e5 := HNN.out
    exact ⟨h - R.length, h, Nat.le_refl _, by omega, Nat.le_refl _, by omega, by have := HST.out; go_num, by go_num, Or.inl rfl, Or.inr (Or.inl rfl), hown, World.grownBy.refl _ _⟩
  case round =>
    obtain ⟨l, r, hlo, hlr, hrh, hrL, rfl, rfl, h1, h2, hown1, hgb1⟩ := hrel
    have hk1 := hk.grown hgb1 hbx hak
    clear hown hk
    have H1 := hide h1
    have H2 := hide h2
    have e1 := HL.out
    have e2 := HR.out
    have e3 := HH.out
    have e4 := HPP.out
    have harm : a + r ≤ m := by omega
    clear h1 h2
    by_cases hlt : l < r
    · obtain ⟨q, hq⟩ : ∃ q : Nat, q = (a + l + (a + r)) / 2 - a := ⟨_, rfl⟩
      obtain ⟨c, hc⟩ : ∃ c : Nat, ((a : Int) + l + ((a : Int) + r)) / 2 = (c : Int) := ⟨a + q, by omega⟩
      have hqv : l ≤ q ∧ q < r := by omega
      have hcq : c = a + q := by omega
      have hcn : c < n := by omega
      have hqL : q < L.length := by omega
      have hqR : h - q - 1 < R.length := by omega
      obtain ⟨d, hd⟩ : ∃ d : Nat, (pp : Int) - (c : Int) = (d : Int) := ⟨m + (h - q - 1), by omega⟩
      have hdq : d = m + (h - q - 1) := by omega
      have hdn : d < n := by omega
      have c1 : wr.cell? ⟨g, c, none⟩ = some (.int .i64 (L[q] : Int)) := own_get hown1 c _ (by rw [hcq, HA.out]; exact at_L P L R Q q hqL)
      have c2 : wr.cell? ⟨g, d, none⟩ = some (.int .i64 (R[h - q - 1] : Int)) := own_get hown1 d _ (by rw [hdq, HM.out]; exact at_RR P L R Q _ hqR)
      have hinx : L[q] < nk := hin _ (List.mem_append_left _ (List.getElem_mem hqL))
      have hiny : R[h - q - 1] < nk := hin _ (List.mem_append_right _ (List.getElem_mem hqR))
      have hLq : L[q]? = some L[q] := List.getElem?_eq_getElem hqL
      have hRq : R[h - q - 1]? = some R[h - q - 1] := List.getElem?_eq_getElem hqR
      generalize L[q] = x at *
      generalize R[h - q - 1] = y at *
      have hcmp := cmpDown_any y x bx ak nk ck keys
      have hiff := cmp_lt_down keys y x
      have HCMP := hide hcmp
      have HKEYS := hide hk1
      have HOW := hide hown1
      have HGB := hide hgb1
      have HCQ := hide hcq
      have HLQ := hide hLq
      have HRQ := hide hRq
      clear hcmp hq hcq hdq hk1 hLq hRq hown1 hgb1 e1 e2 e3 e4
      by_cases hlts : lts keys true y x = true
      · have hneg := hiff.2 hlts
        generalize cmpI (keys.getD x 0) (keys.getD y 0) = cc at *
        have hdd : decide (cc < 0) = true := by simpa using hneg
        have HLTS := hide hlts
        clear hiff hlts
        go_wp2
        go_quiet ((go_at_call 202; exact Calls.quiet_of (HCMP.out _ (HKEYS.out.drewN _) hiny hinx)))
        go_wp2
        go_roundw
        case rel => exact ⟨l, q, hlo, by omega, by omega, by omega, rfl, by have := HCQ.out; go_num, H1.out, Or.inr (Or.inr ⟨x, y, HLQ.out, HRQ.out, HLTS.out, by omega⟩), own_drew HOW.out _, gb_drew HGB.out _⟩
        case measure => simp [intOf]; have := HCQ.out; omega
      · have hneg : ¬ cmpI (keys.getD x 0) (keys.getD y 0) < 0 := fun h => hlts (hiff.1 h)
        generalize cmpI (keys.getD x 0) (keys.getD y 0) = cc at *
        have hdd : decide (cc < 0) = false := by simpa using hneg
        have HLTS : Hid (lts keys true y x = false) := by simpa [Hid] using hlts
        clear hiff hlts
        go_wp2
        go_quiet ((go_at_call 202; exact Calls.quiet_of (HCMP.out _ (HKEYS.out.drewN _) hiny hinx)))
        go_wp2
        go_roundw
        case rel => exact ⟨q + 1, r, by omega, by omega, hrh, hrL, by have := HCQ.out; go_num, rfl, Or.inr ⟨x, y, by simpa using HLQ.out, by rw [show h - (q + 1) = h - q - 1 from by omega]; exact HRQ.out, HLTS.out, by omega⟩, H2.out, own_drew HOW.out _, gb_drew HGB.out _⟩
        case measure => simp [intOf]; have := HCQ.out; omega
    · have hlr' : l = r := by omega
      subst hlr'
      have hcross := sym_left_right hLs hRs hLR hrh H1.out H2.out
      have HC := hide hcross
      have hsp := rows_split P L R Q l (h - l)
      rw [hsp] at hown1
      have hl1 : (L.take l).length = l := by rw [List.length_take]; omega
      have hl2 : (L.drop l).length = L.length - l := List.length_drop ..
      have hl3 : (R.take (h - l)).length = h - l := by rw [List.length_take]; omega
      have hl4 : (R.drop (h - l)).length = R.length - (h - l) := List.length_drop ..
      have s1 := take_sorted hLs l
      have s2 := drop_sorted hLs l
      have s3 := take_sorted hRs (h - l)
      have s4 := drop_sorted hRs (h - l)
      have x13 : ∀ x ∈ L.take l, ∀ y ∈ R.take (h - l), x < y := fun x hx y hy => hLR x (List.mem_of_mem_take hx) y (List.mem_of_mem_take hy)
      have x24 : ∀ x ∈ L.drop l, ∀ y ∈ R.drop (h - l), x < y := fun x hx y hy => hLR x (List.mem_of_mem_drop hx) y (List.mem_of_mem_drop hy)
      have i13 : ∀ p ∈ L.take l ++ R.take (h - l), p < nk := fun p hp => by
        rcases List.mem_append.1 hp with hp | hp
        · exact hin p (List.mem_append_left _ (List.mem_of_mem_take hp))
        · exact hin p (List.mem_append_right _ (List.mem_of_mem_take hp))
      have i24 : ∀ p ∈ L.drop l ++ R.drop (h - l), p < nk := fun p hp => by
        rcases List.mem_append.1 hp with hp | hp
        · exact hin p (List.mem_append_left _ (List.mem_of_mem_drop hp))
        · exact hin p (List.mem_append_right _ (List.mem_of_mem_drop hp))
      have hperm : ∀ M1 M2 : List Nat, M1.Perm (L.take l ++ R.take (h - l)) → M2.Perm (L.drop l ++ R.drop (h - l)) → (M1 ++ M2).Perm (L ++ R) := fun M1 M2 p1 p2 => sym_perm p1 p2
      have HPERM := hide hperm
      have hqr : ∃ (q r' : Nat), q = L.length - l ∧ r' = R.length - (h - l) := ⟨_, _, rfl, rfl⟩
      obtain ⟨q2, r2, hq2, hr2⟩ := hqr
      obtain ⟨r1, hr1⟩ : ∃ r1, r1 = h - l := ⟨_, rfl⟩
      rw [← hr1] at hl3 hl4 hown1 s3 s4 x13 x24 i13 i24
      have HC' : Hid (∀ z ∈ L.take l ++ R.take r1, ∀ z' ∈ L.drop l ++ R.drop r1, bef keys true z z') := by rw [hr1]; exact HC.out
      have HPERM' : Hid (∀ M1 M2 : List Nat, M1.Perm (L.take l ++ R.take r1) → M2.Perm (L.drop l ++ R.drop r1) → (M1 ++ M2).Perm (L ++ R)) := by rw [hr1]; exact HPERM.out
      rw [← hq2] at hl2
      have hr2' : (R.drop r1).length = r2 := by omega
      have a1 : a + l + q2 = m := by omega
      have a2 : a + l + r1 = mid := by omega
      have a3 : mid + q2 + r2 = b := by omega
      have a4 : m + r1 + r2 = b := by omega
      obtain ⟨en, hen⟩ : ∃ en : Nat, (nn : Int) - ((a : Int) + l) = (en : Int) := ⟨mid + q2, by have := HNN.out; omega⟩
      have hen' : en = mid + q2 := by have := HNN.out; omega
      have HN1 : Hid (l + r1 ≤ N) := by have := HNB.out; have : l + r1 = h := by omega
                                        show l + r1 ≤ N; omega
      have HN2 : Hid (q2 + r2 ≤ N) := by have := HNB.out; show q2 + r2 ≤ N; omega
      generalize L.take l = L1 at *
      generalize L.drop l = L2 at *
      generalize R.take r1 = R1 at *
      generalize R.drop r1 = R2 at *
      have HL1 := hide hl1
      have HL2 := hide hl2
      have HL3 := hide hl3
      have HL4 := hide hr2'
      have B1 := hide a1
      have B2 := hide a2
      have B3 := hide a3
      have B4 := hide a4
      have HEN := hide hen'
      have ine1 : a + l ≤ m ∧ a + l ≤ mid ∧ mid ≤ en ∧ en ≤ b ∧ m ≤ en := by omega
      have HS1 := hide s1
      have HS2 := hide s2
      have HS3 := hide s3
      have HS4 := hide s4
      have HX13 := hide x13
      have HX24 := hide x24
      have HI13 := hide i13
      have HI24 := hide i24
      clear hcross hsp hl1 hl2 hl3 hl4 hr2' a1 a2 a3 a4 hen' e1 e2 e3 e4 hr1 hq2 hr2 s1 s2 s3 s4 x13 x24 i13 i24 hperm H1 H2 HC HPERM hLs hRs hLR hin hlt hrh hrL hlo hlr harm
      have HGB := hide hgb1
      have HKEYS := hide hk1
      have HOW := hide hown1
      clear hgb1 hk1 hown1
      have hcs : (l ≤ 0 ∧ 1 ≤ q2 ∧ 1 ≤ r1 ∧ r2 ≤ 0) ∨ (1 ≤ l ∧ 1 ≤ q2 ∧ r1 ≤ 0 ∧ 1 ≤ r2) ∨ (1 ≤ l ∧ 1 ≤ q2 ∧ 1 ≤ r1 ∧ r2 ≤ 0) ∨ (1 ≤ l ∧ 1 ≤ q2 ∧ 1 ≤ r1 ∧ 1 ≤ r2) := by have := B1.out; have := B2.out; have := B3.out; have := B4.out; have := HMID.out; omega
      rcases hcs with ⟨z1, z2, z3, z4⟩ | ⟨z1, z2, z3, z4⟩ | ⟨z1, z2, z3, z4⟩ | ⟨z1, z2, z3, z4⟩
      · have T1 : ((a : Int) + l < (m : Int)) := by have := B1.out; omega
        have T2 : ((m : Int) < (en : Int)) := by have := B1.out; have := B2.out; have := HEN.out; omega
        have T3 : ¬ ((a : Int) < (a : Int) + l) := by omega
        have T4 : ((a : Int) + l < (mid : Int)) := by have := B2.out; omega
        have T5 : ((mid : Int) < (en : Int)) := by have := HEN.out; omega
        have T6 : ¬ ((en : Int) < (b : Int)) := by have := HEN.out; have := B3.out; omega
        go_wp2_with fail
        refine (rotate_any base g n cap (P ++ L1) L2 R1 (R2 ++ Q) _ _ _ _ _ ?_ ?_ ?_ ?_ ?_ HOW.out hn).mono ?_
        · rw [List.length_append, HL1.out, ← HA.out]; omega
        · rw [List.length_append, HL1.out, HL2.out, ← HA.out]; have := B1.out; omega
        · rw [List.length_append, HL1.out, HL2.out, HL3.out, ← HA.out]; have := B1.out; have := B2.out; have := HEN.out; omega
        · rw [HL2.out]; omega
        · rw [HL3.out]; omega
        rintro e w1 ⟨rfl, ho1, hg1⟩
        have G1 := hide (gb_trans HGB.out hg1)
        have K1 := hide (HKEYS.out.grown hg1 hbx hak)
        have O1 : Hid (w1.ownsRow base 3 1 (.slice (some ⟨g, 0, none⟩) n cap) n (cellsN (P ++ L1 ++ R1 ++ (L2 ++ R2 ++ Q)))) := by
          show w1.ownsRow base 3 1 (.slice (some ⟨g, 0, none⟩) n cap) n (cellsN (P ++ L1 ++ R1 ++ (L2 ++ R2 ++ Q)))
          simpa using ho1
        clear ho1 hg1 HGB HKEYS HOW
        have hnil1 : L1 = [] := List.length_eq_zero_iff.1 (by rw [HL1.out]; omega)
        have G2 := hide G1.out
        have K2 := hide K1.out
        obtain ⟨M1, hM1⟩ : ∃ M1, M1 = L1 ++ R1 := ⟨_, rfl⟩
        have P1 : Hid (M1.Perm (L1 ++ R1)) := by rw [hM1]; exact List.Perm.refl _
        have S1 : Hid (M1.Pairwise (bef keys true)) := by
          show M1.Pairwise (bef keys true)
          rw [hM1, hnil1]; simpa using HS3.out
        have O2 : Hid (w1.ownsRow base 3 1 (.slice (some ⟨g, 0, none⟩) n cap) n (cellsN (P ++ M1 ++ L2 ++ R2 ++ Q))) := by
          show w1.ownsRow base 3 1 (.slice (some ⟨g, 0, none⟩) n cap) n (cellsN (P ++ M1 ++ L2 ++ R2 ++ Q))
          rw [hM1]; simpa using O1.out
        clear hnil1 hM1 G1 K1 O1
        have HM1 : Hid (M1.length = l + r1) := by rw [Hid, P1.out.length_eq, List.length_append, HL1.out, HL3.out]
        have hnil2 : R2 = [] := List.length_eq_zero_iff.1 (by rw [HL4.out]; omega)
        obtain ⟨M2, hM2⟩ : ∃ M2, M2 = L2 ++ R2 := ⟨_, rfl⟩
        have P2 : Hid (M2.Perm (L2 ++ R2)) := by rw [hM2]; exact List.Perm.refl _
        have S2 : Hid (M2.Pairwise (bef keys true)) := by
          show M2.Pairwise (bef keys true)
          rw [hM2, hnil2]; simpa using HS2.out
        have G3 := hide G2.out
        have O3 : Hid (w1.ownsRow base 3 1 (.slice (some ⟨g, 0, none⟩) n cap) n (cellsN (P ++ M1 ++ M2 ++ Q))) := by
          show w1.ownsRow base 3 1 (.slice (some ⟨g, 0, none⟩) n cap) n (cellsN (P ++ M1 ++ M2 ++ Q))
          rw [hM2]; simpa using O2.out
        clear hnil2 hM2 G2 K2 O2
        go_wp2
        first | go_end0 | refine bodyPost_ret (results_none rfl _ _ _) rfl ?_
        exact ⟨rfl, M1 ++ M2, HPERM'.out M1 M2 P1.out P2.out, sym_sorted HC'.out P1.out P2.out S1.out S2.out, by simpa using O3.out, G3.out⟩
      · have T1 : ((a : Int) + l < (m : Int)) := by have := B1.out; omega
        have T2 : ¬ ((m : Int) < (en : Int)) := by have := B1.out; have := B2.out; have := HEN.out; omega
        have T3 : ((a : Int) < (a : Int) + l) := by omega
        have T4 : ¬ ((a : Int) + l < (mid : Int)) := by have := B2.out; omega
        have T5 : ((mid : Int) < (en : Int)) := by have := HEN.out; omega
        have T6 : ((en : Int) < (b : Int)) := by have := HEN.out; have := B3.out; omega
        have hnil : R1 = [] := List.length_eq_zero_iff.1 (by rw [HL3.out]; omega)
        have G1 := hide HGB.out
        have K1 := hide HKEYS.out
        have O1 : Hid (wr.ownsRow base 3 1 (.slice (some ⟨g, 0, none⟩) n cap) n (cellsN (P ++ L1 ++ R1 ++ (L2 ++ R2 ++ Q)))) := by
          show wr.ownsRow base 3 1 (.slice (some ⟨g, 0, none⟩) n cap) n (cellsN (P ++ L1 ++ R1 ++ (L2 ++ R2 ++ Q)))
          have := HOW.out
          rw [hnil] at this ⊢
          simpa using this
        clear HGB HKEYS HOW hnil
        have hnil1 : R1 = [] := List.length_eq_zero_iff.1 (by rw [HL3.out]; omega)
        have G2 := hide G1.out
        have K2 := hide K1.out
        obtain ⟨M1, hM1⟩ : ∃ M1, M1 = L1 ++ R1 := ⟨_, rfl⟩
        have P1 : Hid (M1.Perm (L1 ++ R1)) := by rw [hM1]; exact List.Perm.refl _
        have S1 : Hid (M1.Pairwise (bef keys true)) := by
          show M1.Pairwise (bef keys true)
          rw [hM1, hnil1]; simpa using HS1.out
        have O2 : Hid (wr.ownsRow base 3 1 (.slice (some ⟨g, 0, none⟩) n cap) n (cellsN (P ++ M1 ++ L2 ++ R2 ++ Q))) := by
          show wr.ownsRow base 3 1 (.slice (some ⟨g, 0, none⟩) n cap) n (cellsN (P ++ M1 ++ L2 ++ R2 ++ Q))
          rw [hM1]; simpa using O1.out
        clear hnil1 hM1 G1 K1 O1
        have HM1 : Hid (M1.length = l + r1) := by rw [Hid, P1.out.length_eq, List.length_append, HL1.out, HL3.out]
        go_wp2_with fail
        refine (HIH.out (P ++ M1) L2 R2 Q _ _ _ _ ?_ ?_ ?_ ?_ ?_ ?_ O2.out K2.out HS2.out HS4.out HX24.out HI24.out).mono ?_
        · rw [HL2.out, HL4.out]; exact HN2.out
        · rw [HL2.out]; omega
        · rw [HL4.out]; omega
        · rw [List.length_append, HM1.out, ← HA.out]; have := B2.out; omega
        · rw [List.length_append, HM1.out, HL2.out, ← HA.out]; have := B2.out; have := HEN.out; omega
        · rw [List.length_append, HM1.out, HL2.out, HL4.out, ← HA.out]; have := B2.out; have := B3.out; omega
        rintro e w3 ⟨rfl, M2, hp2, hs2, ho3, hg3⟩
        have P2 := hide hp2
        have S2 := hide hs2
        have G3 := hide (gb_trans G2.out hg3)
        have O3 := hide ho3
        clear hp2 hs2 ho3 hg3 G2 K2 O2
        go_wp2
        first | go_end0 | refine bodyPost_ret (results_none rfl _ _ _) rfl ?_
        exact ⟨rfl, M1 ++ M2, HPERM'.out M1 M2 P1.out P2.out, sym_sorted HC'.out P1.out P2.out S1.out S2.out, by simpa using O3.out, G3.out⟩
      · have T1 : ((a : Int) + l < (m : Int)) := by have := B1.out; omega
        have T2 : ((m : Int) < (en : Int)) := by have := B1.out; have := B2.out; have := HEN.out; omega
        have T3 : ((a : Int) < (a : Int) + l) := by omega
        have T4 : ((a : Int) + l < (mid : Int)) := by have := B2.out; omega
        have T5 : ((mid : Int) < (en : Int)) := by have := HEN.out; omega
        have T6 : ¬ ((en : Int) < (b : Int)) := by have := HEN.out; have := B3.out; omega
        go_wp2_with fail
        refine (rotate_any base g n cap (P ++ L1) L2 R1 (R2 ++ Q) _ _ _ _ _ ?_ ?_ ?_ ?_ ?_ HOW.out hn).mono ?_
        · rw [List.length_append, HL1.out, ← HA.out]; omega
        · rw [List.length_append, HL1.out, HL2.out, ← HA.out]; have := B1.out; omega
        · rw [List.length_append, HL1.out, HL2.out, HL3.out, ← HA.out]; have := B1.out; have := B2.out; have := HEN.out; omega
        · rw [HL2.out]; omega
        · rw [HL3.out]; omega
        rintro e w1 ⟨rfl, ho1, hg1⟩
        have G1 := hide (gb_trans HGB.out hg1)
        have K1 := hide (HKEYS.out.grown hg1 hbx hak)
        have O1 : Hid (w1.ownsRow base 3 1 (.slice (some ⟨g, 0, none⟩) n cap) n (cellsN (P ++ L1 ++ R1 ++ (L2 ++ R2 ++ Q)))) := by
          show w1.ownsRow base 3 1 (.slice (some ⟨g, 0, none⟩) n cap) n (cellsN (P ++ L1 ++ R1 ++ (L2 ++ R2 ++ Q)))
          simpa using ho1
        clear ho1 hg1 HGB HKEYS HOW
        go_wp2_with fail
        refine (HIH.out P L1 R1 (L2 ++ R2 ++ Q) _ _ _ _ ?_ ?_ ?_ ?_ ?_ ?_ O1.out K1.out HS1.out HS3.out HX13.out HI13.out).mono ?_
        · rw [HL1.out, HL3.out]; exact HN1.out
        · rw [HL1.out]; omega
        · rw [HL3.out]; omega
        · rw [← HA.out]
        · rw [HL1.out, ← HA.out]
        · rw [HL1.out, HL3.out, ← HA.out]; have := B2.out; omega
        rintro e w2 ⟨rfl, M1, hp1, hs1, ho2, hg2⟩
        have G2 := hide (gb_trans G1.out hg2)
        have K2 := hide (K1.out.grown hg2 hbx hak)
        have P1 := hide hp1
        have S1 := hide hs1
        have O2 : Hid (w2.ownsRow base 3 1 (.slice (some ⟨g, 0, none⟩) n cap) n (cellsN (P ++ M1 ++ L2 ++ R2 ++ Q))) := by
          show w2.ownsRow base 3 1 (.slice (some ⟨g, 0, none⟩) n cap) n (cellsN (P ++ M1 ++ L2 ++ R2 ++ Q))
          simpa using ho2
        clear hp1 hs1 ho2 hg2 G1 K1 O1
        have HM1 : Hid (M1.length = l + r1) := by rw [Hid, P1.out.length_eq, List.length_append, HL1.out, HL3.out]
        have hnil2 : R2 = [] := List.length_eq_zero_iff.1 (by rw [HL4.out]; omega)
        obtain ⟨M2, hM2⟩ : ∃ M2, M2 = L2 ++ R2 := ⟨_, rfl⟩
        have P2 : Hid (M2.Perm (L2 ++ R2)) := by rw [hM2]; exact List.Perm.refl _
        have S2 : Hid (M2.Pairwise (bef keys true)) := by
          show M2.Pairwise (bef keys true)
          rw [hM2, hnil2]; simpa using HS2.out
        have G3 := hide G2.out
        have O3 : Hid (w2.ownsRow base 3 1 (.slice (some ⟨g, 0, none⟩) n cap) n (cellsN (P ++ M1 ++ M2 ++ Q))) := by
          show w2.ownsRow base 3 1 (.slice (some ⟨g, 0, none⟩) n cap) n (cellsN (P ++ M1 ++ M2 ++ Q))
          rw [hM2]; simpa using O2.out
        clear hnil2 hM2 G2 K2 O2
        go_wp2
        first | go_end0 | refine bodyPost_ret (results_none rfl _ _ _) rfl ?_
        exact ⟨rfl, M1 ++ M2, HPERM'.out M1 M2 P1.out P2.out, sym_sorted HC'.out P1.out P2.out S1.out S2.out, by simpa using O3.out, G3.out⟩
      · have T1 : ((a : Int) + l < (m : Int)) := by have := B1.out; omega
        have T2 : ((m : Int) < (en : Int)) := by have := B1.out; have := B2.out; have := HEN.out; omega
        have T3 : ((a : Int) < (a : Int) + l) := by omega
        have T4 : ((a : Int) + l < (mid : Int)) := by have := B2.out; omega
        have T5 : ((mid : Int) < (en : Int)) := by have := HEN.out; omega
        have T6 : ((en : Int) < (b : Int)) := by have := HEN.out; have := B3.out; omega
        go_wp2_with fail
        refine (rotate_any base g n cap (P ++ L1) L2 R1 (R2 ++ Q) _ _ _ _ _ ?_ ?_ ?_ ?_ ?_ HOW.out hn).mono ?_
        · rw [List.length_append, HL1.out, ← HA.out]; omega
        · rw [List.length_append, HL1.out, HL2.out, ← HA.out]; have := B1.out; omega
        · rw [List.length_append, HL1.out, HL2.out, HL3.out, ← HA.out]; have := B1.out; have := B2.out; have := HEN.out; omega
        · rw [HL2.out]; omega
        · rw [HL3.out]; omega
        rintro e w1 ⟨rfl, ho1, hg1⟩
        have G1 := hide (gb_trans HGB.out hg1)
        have K1 := hide (HKEYS.out.grown hg1 hbx hak)
        have O1 : Hid (w1.ownsRow base 3 1 (.slice (some ⟨g, 0, none⟩) n cap) n (cellsN (P ++ L1 ++ R1 ++ (L2 ++ R2 ++ Q)))) := by
          show w1.ownsRow base 3 1 (.slice (some ⟨g, 0, none⟩) n cap) n (cellsN (P ++ L1 ++ R1 ++ (L2 ++ R2 ++ Q)))
          simpa using ho1
        clear ho1 hg1 HGB HKEYS HOW
        go_wp2_with fail
        refine (HIH.out P L1 R1 (L2 ++ R2 ++ Q) _ _ _ _ ?_ ?_ ?_ ?_ ?_ ?_ O1.out K1.out HS1.out HS3.out HX13.out HI13.out).mono ?_
        · rw [HL1.out, HL3.out]; exact HN1.out
        · rw [HL1.out]; omega
        · rw [HL3.out]; omega
        · rw [← HA.out]
        · rw [HL1.out, ← HA.out]
        · rw [HL1.out, HL3.out, ← HA.out]; have := B2.out; omega
        rintro e w2 ⟨rfl, M1, hp1, hs1, ho2, hg2⟩
        have G2 := hide (gb_trans G1.out hg2)
        have K2 := hide (K1.out.grown hg2 hbx hak)
        have P1 := hide hp1
        have S1 := hide hs1
        have O2 : Hid (w2.ownsRow base 3 1 (.slice (some ⟨g, 0, none⟩) n cap) n (cellsN (P ++ M1 ++ L2 ++ R2 ++ Q))) := by
          show w2.ownsRow base 3 1 (.slice (some ⟨g, 0, none⟩) n cap) n (cellsN (P ++ M1 ++ L2 ++ R2 ++ Q))
          simpa using ho2
        clear hp1 hs1 ho2 hg2 G1 K1 O1
        have HM1 : Hid (M1.length = l + r1) := by rw [Hid, P1.out.length_eq, List.length_append, HL1.out, HL3.out]
        go_wp2_with fail
        refine (HIH.out (P ++ M1) L2 R2 Q _ _ _ _ ?_ ?_ ?_ ?_ ?_ ?_ O2.out K2.out HS2.out HS4.out HX24.out HI24.out).mono ?_
        · rw [HL2.out, HL4.out]; exact HN2.out
        · rw [HL2.out]; omega
        · rw [HL4.out]; omega
        · rw [List.length_append, HM1.out, ← HA.out]; have := B2.out; omega
        · rw [List.length_append, HM1.out, HL2.out, ← HA.out]; have := B2.out; have := HEN.out; omega
        · rw [List.length_append, HM1.out, HL2.out, HL4.out, ← HA.out]; have := B2.out; have := B3.out; omega
        rintro e w3 ⟨rfl, M2, hp2, hs2, ho3, hg3⟩
        have P2 := hide hp2
        have S2 := hide hs2
        have G3 := hide (gb_trans G2.out hg3)
        have O3 := hide ho3
        clear hp2 hs2 ho3 hg3 G2 K2 O2
        go_wp2
        first | go_end0 | refine bodyPost_ret (results_none rfl _ _ _) rfl ?_
        exact ⟨rfl, M1 ++ M2, HPERM'.out M1 M2 P1.out P2.out, sym_sorted HC'.out P1.out P2.out S1.out S2.out, by simpa using O3.out, G3.out⟩
end Go.Proofs.YtphdeojiehigpaaGreatDoor

/- The library's symMerge: its recursive step (Down, B). -/
namespace Go.Proofs.YtphdeojiehigpaaGreatDoor
open Go.RowKit

set_option maxRecDepth 100000 in
set_option maxHeartbeats 12800000 in
theorem symStepDownB (base g n cap bx : Nat) (ak : Option Addr) (nk ck : Nat) (keys : List Int) (N : Nat) (ih : SymSaidDown base g n cap bx ak nk ck keys N) (hbx : bx ≠ g) (hak : ∀ x, ak = some x → x.block ≠ g) (hn : n ≤ 1048576)
    (P L R Q : List Nat) (a m b mid : Nat) (w : World) (hN : L.length + R.length ≤ N + 1) (ha : a = P.length) (hm : m = P.length + L.length) (hb : b = P.length + L.length + R.length) (hL0 : 2 ≤ L.length) (hR0 : 2 ≤ R.length) (hmid : mid = (a + b) / 2) (hmm : ¬ mid < m)
    (hown : w.ownsRow base 3 1 (.slice (some ⟨g, 0, none⟩) n cap) n (cellsN (P ++ L ++ R ++ Q))) (hk : Keys w bx ak nk ck keys)
    (hLs : L.Pairwise (bef keys true)) (hRs : R.Pairwise (bef keys true)) (hLR : ∀ x ∈ L, ∀ y ∈ R, x < y) (hin : ∀ p ∈ L ++ R, p < nk) :
    Calls Tryz.prog 207 #[.slice (some ⟨g, 0, none⟩) n cap, .int .i64 (a : Int), .int .i64 (m : Int), .int .i64 (b : Int), .func (Fn.func 202) #[] #[.pointer (some ⟨bx, 0, none⟩)]] w fun e w' =>
      e = .returned (.tuple #[]) ∧ ∃ M', M'.Perm (L ++ R) ∧ M'.Pairwise (bef keys true) ∧ w'.ownsRow base 3 1 (.slice (some ⟨g, 0, none⟩) n cap) n (cellsN (P ++ M' ++ Q)) ∧ w.grownBy w' (some g) := by
  have hlen : P.length + L.length + R.length + Q.length = n := by have := hown.1; simp [cellsN] at this; omega
  obtain ⟨h, hh⟩ : ∃ h, h = mid - a := ⟨_, rfl⟩
  have HA := hide ha
  have HM := hide hm
  have HBB := hide hb
  have HH := hide hh
  have HL := hide (show a + L.length = m by omega)
  have HR := hide (show m + R.length = b by omega)
  have HIH := hide ih
  have ham2 : a + 2 ≤ m := by omega
  have hmb2 : m + 2 ≤ b := by omega
  have hbn : b ≤ n := by omega
  have hmid1 : a < mid ∧ mid < b := by omega
  have HMID := hide hmid
  have hma : ((m : Int) - (a : Int) == 1) = false := by simp; omega
  have hbm : ((b : Int) - (m : Int) == 1) = false := by simp; omega
  have hmide : ((a : Int) + (b : Int)) / 2 = (mid : Int) := by omega
  obtain ⟨nn, hnn⟩ : ∃ nn : Nat, (mid : Int) + (m : Int) = (nn : Int) := ⟨mid + m, by omega⟩
  have HNN := hide (show nn = mid + m by omega)
  have hnnb : nn ≤ 2097152 := by omega
  have hpp : (nn : Int) - 1 = ((nn - 1 : Nat) : Int) := by omega
  obtain ⟨pp, hpp'⟩ : ∃ pp : Nat, pp = nn - 1 := ⟨_, rfl⟩
  rw [← hpp'] at hpp
  have HPP := hide (show pp + 1 = mid + m by omega)
  have HNB := hide hN
  clear ha hm hb hmid ih hlen hh hpp' hN
  go_enter Tryz.func207, Tryz.ntmps207
  go_wp2
  go_loopw [20, 21, 23] (fun i j _ wr => ∃ (l r : Nat), h - R.length ≤ l ∧ l ≤ r ∧ r ≤ h ∧ r ≤ L.length ∧ i = .int .i64 ((a : Int) + l) ∧ j = .int .i64 ((a : Int) + r) ∧ (l = h - R.length ∨ ∃ x y, L[l - 1]? = some x ∧ R[h - l]? = some y ∧ lts keys true y x = false ∧ 1 ≤ l) ∧ (r = L.length ∨ r = h ∨ ∃ x y, L[r]? = some x ∧ R[h - r - 1]? = some y ∧ lts keys true y x = true ∧ r < h) ∧ wr.ownsRow base 3 1 (.slice (some ⟨g, 0, none⟩) n cap) n (cellsN (P ++ L ++ R ++ Q)) ∧ w.grownBy wr (some g)) (fun i j _ _ => (intOf j - intOf i).toNat)
  case atStart =>
    have e1 := HL.out
    have e2 := HR.out
    have e3 := HH.out
    have e4 := HMID.out
    have e5 := HNN.out
    exact ⟨0, L.length, by omega, Nat.zero_le _, by omega, Nat.le_refl _, by go_num, by go_num, Or.inl (by omega), Or.inl rfl, hown, World.grownBy.refl _ _⟩
  case round =>
    obtain ⟨l, r, hlo, hlr, hrh, hrL, rfl, rfl, h1, h2, hown1, hgb1⟩ := hrel
    have hk1 := hk.grown hgb1 hbx hak
    clear hown hk
    have H1 := hide h1
    have H2 := hide h2
    have e1 := HL.out
    have e2 := HR.out
    have e3 := HH.out
    have e4 := HPP.out
    have harm : a + r ≤ m := by omega
    clear h1 h2
    by_cases hlt : l < r
    · obtain ⟨q, hq⟩ : ∃ q : Nat, q = (a + l + (a + r)) / 2 - a := ⟨_, rfl⟩
      obtain ⟨c, hc⟩ : ∃ c : Nat, ((a : Int) + l + ((a : Int) + r)) / 2 = (c : Int) := ⟨a + q, by omega⟩
      have hqv : l ≤ q ∧ q < r := by omega
      have hcq : c = a + q := by omega
      have hcn : c < n := by omega
      have hqL : q < L.length := by omega
      have hqR : h - q - 1 < R.length := by omega
      obtain ⟨d, hd⟩ : ∃ d : Nat, (pp : Int) - (c : Int) = (d : Int) := ⟨m + (h - q - 1), by omega⟩
      have hdq : d = m + (h - q - 1) := by omega
      have hdn : d < n := by omega
      have c1 : wr.cell? ⟨g, c, none⟩ = some (.int .i64 (L[q] : Int)) := own_get hown1 c _ (by rw [hcq, HA.out]; exact at_L P L R Q q hqL)
      have c2 : wr.cell? ⟨g, d, none⟩ = some (.int .i64 (R[h - q - 1] : Int)) := own_get hown1 d _ (by rw [hdq, HM.out]; exact at_RR P L R Q _ hqR)
      have hinx : L[q] < nk := hin _ (List.mem_append_left _ (List.getElem_mem hqL))
      have hiny : R[h - q - 1] < nk := hin _ (List.mem_append_right _ (List.getElem_mem hqR))
      have hLq : L[q]? = some L[q] := List.getElem?_eq_getElem hqL
      have hRq : R[h - q - 1]? = some R[h - q - 1] := List.getElem?_eq_getElem hqR
      generalize L[q] = x at *
      generalize R[h - q - 1] = y at *
      have hcmp := cmpDown_any y x bx ak nk ck keys
      have hiff := cmp_lt_down keys y x
      have HCMP := hide hcmp
      have HKEYS := hide hk1
      have HOW := hide hown1
      have HGB := hide hgb1
      have HCQ := hide hcq
      have HLQ := hide hLq
      have HRQ := hide hRq
      clear hcmp hq hcq hdq hk1 hLq hRq hown1 hgb1 e1 e2 e3 e4
      by_cases hlts : lts keys true y x = true
      · have hneg := hiff.2 hlts
        generalize cmpI (keys.getD x 0) (keys.getD y 0) = cc at *
        have hdd : decide (cc < 0) = true := by simpa using hneg
        have HLTS := hide hlts
        clear hiff hlts
        go_wp2
        go_quiet ((go_at_call 202; exact Calls.quiet_of (HCMP.out _ (HKEYS.out.drewN _) hiny hinx)))
        go_wp2
        go_roundw
        case rel => exact ⟨l, q, hlo, by omega, by omega, by omega, rfl, by have := HCQ.out; go_num, H1.out, Or.inr (Or.inr ⟨x, y, HLQ.out, HRQ.out, HLTS.out, by omega⟩), own_drew HOW.out _, gb_drew HGB.out _⟩
        case measure => simp [intOf]; have := HCQ.out; omega
      · have hneg : ¬ cmpI (keys.getD x 0) (keys.getD y 0) < 0 := fun h => hlts (hiff.1 h)
        generalize cmpI (keys.getD x 0) (keys.getD y 0) = cc at *
        have hdd : decide (cc < 0) = false := by simpa using hneg
        have HLTS : Hid (lts keys true y x = false) := by simpa [Hid] using hlts
        clear hiff hlts
        go_wp2
        go_quiet ((go_at_call 202; exact Calls.quiet_of (HCMP.out _ (HKEYS.out.drewN _) hiny hinx)))
        go_wp2
        go_roundw
        case rel => exact ⟨q + 1, r, by omega, by omega, hrh, hrL, by have := HCQ.out; go_num, rfl, Or.inr ⟨x, y, by simpa using HLQ.out, by rw [show h - (q + 1) = h - q - 1 from by omega]; exact HRQ.out, HLTS.out, by omega⟩, H2.out, own_drew HOW.out _, gb_drew HGB.out _⟩
        case measure => simp [intOf]; have := HCQ.out; omega
    · have hlr' : l = r := by omega
      subst hlr'
      have hcross := sym_left_right hLs hRs hLR hrh H1.out H2.out
      have HC := hide hcross
      have hsp := rows_split P L R Q l (h - l)
      rw [hsp] at hown1
      have hl1 : (L.take l).length = l := by rw [List.length_take]; omega
      have hl2 : (L.drop l).length = L.length - l := List.length_drop ..
      have hl3 : (R.take (h - l)).length = h - l := by rw [List.length_take]; omega
      have hl4 : (R.drop (h - l)).length = R.length - (h - l) := List.length_drop ..
      have s1 := take_sorted hLs l
      have s2 := drop_sorted hLs l
      have s3 := take_sorted hRs (h - l)
      have s4 := drop_sorted hRs (h - l)
      have x13 : ∀ x ∈ L.take l, ∀ y ∈ R.take (h - l), x < y := fun x hx y hy => hLR x (List.mem_of_mem_take hx) y (List.mem_of_mem_take hy)
      have x24 : ∀ x ∈ L.drop l, ∀ y ∈ R.drop (h - l), x < y := fun x hx y hy => hLR x (List.mem_of_mem_drop hx) y (List.mem_of_mem_drop hy)
      have i13 : ∀ p ∈ L.take l ++ R.take (h - l), p < nk := fun p hp => by
        rcases List.mem_append.1 hp with hp | hp
        · exact hin p (List.mem_append_left _ (List.mem_of_mem_take hp))
        · exact hin p (List.mem_append_right _ (List.mem_of_mem_take hp))
      have i24 : ∀ p ∈ L.drop l ++ R.drop (h - l), p < nk := fun p hp => by
        rcases List.mem_append.1 hp with hp | hp
        · exact hin p (List.mem_append_left _ (List.mem_of_mem_drop hp))
        · exact hin p (List.mem_append_right _ (List.mem_of_mem_drop hp))
      have hperm : ∀ M1 M2 : List Nat, M1.Perm (L.take l ++ R.take (h - l)) → M2.Perm (L.drop l ++ R.drop (h - l)) → (M1 ++ M2).Perm (L ++ R) := fun M1 M2 p1 p2 => sym_perm p1 p2
      have HPERM := hide hperm
      have hqr : ∃ (q r' : Nat), q = L.length - l ∧ r' = R.length - (h - l) := ⟨_, _, rfl, rfl⟩
      obtain ⟨q2, r2, hq2, hr2⟩ := hqr
      obtain ⟨r1, hr1⟩ : ∃ r1, r1 = h - l := ⟨_, rfl⟩
      rw [← hr1] at hl3 hl4 hown1 s3 s4 x13 x24 i13 i24
      have HC' : Hid (∀ z ∈ L.take l ++ R.take r1, ∀ z' ∈ L.drop l ++ R.drop r1, bef keys true z z') := by rw [hr1]; exact HC.out
      have HPERM' : Hid (∀ M1 M2 : List Nat, M1.Perm (L.take l ++ R.take r1) → M2.Perm (L.drop l ++ R.drop r1) → (M1 ++ M2).Perm (L ++ R)) := by rw [hr1]; exact HPERM.out
      rw [← hq2] at hl2
      have hr2' : (R.drop r1).length = r2 := by omega
      have a1 : a + l + q2 = m := by omega
      have a2 : a + l + r1 = mid := by omega
      have a3 : mid + q2 + r2 = b := by omega
      have a4 : m + r1 + r2 = b := by omega
      obtain ⟨en, hen⟩ : ∃ en : Nat, (nn : Int) - ((a : Int) + l) = (en : Int) := ⟨mid + q2, by have := HNN.out; omega⟩
      have hen' : en = mid + q2 := by have := HNN.out; omega
      have HN1 : Hid (l + r1 ≤ N) := by have := HNB.out; have : l + r1 = h := by omega
                                        show l + r1 ≤ N; omega
      have HN2 : Hid (q2 + r2 ≤ N) := by have := HNB.out; show q2 + r2 ≤ N; omega
      generalize L.take l = L1 at *
      generalize L.drop l = L2 at *
      generalize R.take r1 = R1 at *
      generalize R.drop r1 = R2 at *
      have HL1 := hide hl1
      have HL2 := hide hl2
      have HL3 := hide hl3
      have HL4 := hide hr2'
      have B1 := hide a1
      have B2 := hide a2
      have B3 := hide a3
      have B4 := hide a4
      have HEN := hide hen'
      have ine1 : a + l ≤ m ∧ a + l ≤ mid ∧ mid ≤ en ∧ en ≤ b ∧ m ≤ en := by omega
      have HS1 := hide s1
      have HS2 := hide s2
      have HS3 := hide s3
      have HS4 := hide s4
      have HX13 := hide x13
      have HX24 := hide x24
      have HI13 := hide i13
      have HI24 := hide i24
      clear hcross hsp hl1 hl2 hl3 hl4 hr2' a1 a2 a3 a4 hen' e1 e2 e3 e4 hr1 hq2 hr2 s1 s2 s3 s4 x13 x24 i13 i24 hperm H1 H2 HC HPERM hLs hRs hLR hin hlt hrh hrL hlo hlr harm
      have HGB := hide hgb1
      have HKEYS := hide hk1
      have HOW := hide hown1
      clear hgb1 hk1 hown1
      have hcs : (l ≤ 0 ∧ 1 ≤ q2 ∧ 1 ≤ r1 ∧ r2 ≤ 0) ∨ (l ≤ 0 ∧ 1 ≤ q2 ∧ 1 ≤ r1 ∧ 1 ≤ r2) ∨ (1 ≤ l ∧ q2 ≤ 0 ∧ r1 ≤ 0 ∧ 1 ≤ r2) ∨ (1 ≤ l ∧ q2 ≤ 0 ∧ 1 ≤ r1 ∧ 1 ≤ r2) ∨ (1 ≤ l ∧ 1 ≤ q2 ∧ 1 ≤ r1 ∧ 1 ≤ r2) := by have := B1.out; have := B2.out; have := B3.out; have := B4.out; have := HMID.out; omega
      rcases hcs with ⟨z1, z2, z3, z4⟩ | ⟨z1, z2, z3, z4⟩ | ⟨z1, z2, z3, z4⟩ | ⟨z1, z2, z3, z4⟩ | ⟨z1, z2, z3, z4⟩
      · have T1 : ((a : Int) + l < (m : Int)) := by have := B1.out; omega
        have T2 : ((m : Int) < (en : Int)) := by have := B1.out; have := B2.out; have := HEN.out; omega
        have T3 : ¬ ((a : Int) < (a : Int) + l) := by omega
        have T4 : ((a : Int) + l < (mid : Int)) := by have := B2.out; omega
        have T5 : ((mid : Int) < (en : Int)) := by have := HEN.out; omega
        have T6 : ¬ ((en : Int) < (b : Int)) := by have := HEN.out; have := B3.out; omega
        go_wp2_with fail
        refine (rotate_any base g n cap (P ++ L1) L2 R1 (R2 ++ Q) _ _ _ _ _ ?_ ?_ ?_ ?_ ?_ HOW.out hn).mono ?_
        · rw [List.length_append, HL1.out, ← HA.out]; omega
        · rw [List.length_append, HL1.out, HL2.out, ← HA.out]; have := B1.out; omega
        · rw [List.length_append, HL1.out, HL2.out, HL3.out, ← HA.out]; have := B1.out; have := B2.out; have := HEN.out; omega
        · rw [HL2.out]; omega
        · rw [HL3.out]; omega
        rintro e w1 ⟨rfl, ho1, hg1⟩
        have G1 := hide (gb_trans HGB.out hg1)
        have K1 := hide (HKEYS.out.grown hg1 hbx hak)
        have O1 : Hid (w1.ownsRow base 3 1 (.slice (some ⟨g, 0, none⟩) n cap) n (cellsN (P ++ L1 ++ R1 ++ (L2 ++ R2 ++ Q)))) := by
          show w1.ownsRow base 3 1 (.slice (some ⟨g, 0, none⟩) n cap) n (cellsN (P ++ L1 ++ R1 ++ (L2 ++ R2 ++ Q)))
          simpa using ho1
        clear ho1 hg1 HGB HKEYS HOW
        have hnil1 : L1 = [] := List.length_eq_zero_iff.1 (by rw [HL1.out]; omega)
        have G2 := hide G1.out
        have K2 := hide K1.out
        obtain ⟨M1, hM1⟩ : ∃ M1, M1 = L1 ++ R1 := ⟨_, rfl⟩
        have P1 : Hid (M1.Perm (L1 ++ R1)) := by rw [hM1]; exact List.Perm.refl _
        have S1 : Hid (M1.Pairwise (bef keys true)) := by
          show M1.Pairwise (bef keys true)
          rw [hM1, hnil1]; simpa using HS3.out
        have O2 : Hid (w1.ownsRow base 3 1 (.slice (some ⟨g, 0, none⟩) n cap) n (cellsN (P ++ M1 ++ L2 ++ R2 ++ Q))) := by
          show w1.ownsRow base 3 1 (.slice (some ⟨g, 0, none⟩) n cap) n (cellsN (P ++ M1 ++ L2 ++ R2 ++ Q))
          rw [hM1]; simpa using O1.out
        clear hnil1 hM1 G1 K1 O1
        have HM1 : Hid (M1.length = l + r1) := by rw [Hid, P1.out.length_eq, List.length_append, HL1.out, HL3.out]
        have hnil2 : R2 = [] := List.length_eq_zero_iff.1 (by rw [HL4.out]; omega)
        obtain ⟨M2, hM2⟩ : ∃ M2, M2 = L2 ++ R2 := ⟨_, rfl⟩
        have P2 : Hid (M2.Perm (L2 ++ R2)) := by rw [hM2]; exact List.Perm.refl _
        have S2 : Hid (M2.Pairwise (bef keys true)) := by
          show M2.Pairwise (bef keys true)
          rw [hM2, hnil2]; simpa using HS2.out
        have G3 := hide G2.out
        have O3 : Hid (w1.ownsRow base 3 1 (.slice (some ⟨g, 0, none⟩) n cap) n (cellsN (P ++ M1 ++ M2 ++ Q))) := by
          show w1.ownsRow base 3 1 (.slice (some ⟨g, 0, none⟩) n cap) n (cellsN (P ++ M1 ++ M2 ++ Q))
          rw [hM2]; simpa using O2.out
        clear hnil2 hM2 G2 K2 O2
        go_wp2
        first | go_end0 | refine bodyPost_ret (results_none rfl _ _ _) rfl ?_
        exact ⟨rfl, M1 ++ M2, HPERM'.out M1 M2 P1.out P2.out, sym_sorted HC'.out P1.out P2.out S1.out S2.out, by simpa using O3.out, G3.out⟩
      · have T1 : ((a : Int) + l < (m : Int)) := by have := B1.out; omega
        have T2 : ((m : Int) < (en : Int)) := by have := B1.out; have := B2.out; have := HEN.out; omega
        have T3 : ¬ ((a : Int) < (a : Int) + l) := by omega
        have T4 : ((a : Int) + l < (mid : Int)) := by have := B2.out; omega
        have T5 : ((mid : Int) < (en : Int)) := by have := HEN.out; omega
        have T6 : ((en : Int) < (b : Int)) := by have := HEN.out; have := B3.out; omega
        go_wp2_with fail
        refine (rotate_any base g n cap (P ++ L1) L2 R1 (R2 ++ Q) _ _ _ _ _ ?_ ?_ ?_ ?_ ?_ HOW.out hn).mono ?_
        · rw [List.length_append, HL1.out, ← HA.out]; omega
        · rw [List.length_append, HL1.out, HL2.out, ← HA.out]; have := B1.out; omega
        · rw [List.length_append, HL1.out, HL2.out, HL3.out, ← HA.out]; have := B1.out; have := B2.out; have := HEN.out; omega
        · rw [HL2.out]; omega
        · rw [HL3.out]; omega
        rintro e w1 ⟨rfl, ho1, hg1⟩
        have G1 := hide (gb_trans HGB.out hg1)
        have K1 := hide (HKEYS.out.grown hg1 hbx hak)
        have O1 : Hid (w1.ownsRow base 3 1 (.slice (some ⟨g, 0, none⟩) n cap) n (cellsN (P ++ L1 ++ R1 ++ (L2 ++ R2 ++ Q)))) := by
          show w1.ownsRow base 3 1 (.slice (some ⟨g, 0, none⟩) n cap) n (cellsN (P ++ L1 ++ R1 ++ (L2 ++ R2 ++ Q)))
          simpa using ho1
        clear ho1 hg1 HGB HKEYS HOW
        have hnil1 : L1 = [] := List.length_eq_zero_iff.1 (by rw [HL1.out]; omega)
        have G2 := hide G1.out
        have K2 := hide K1.out
        obtain ⟨M1, hM1⟩ : ∃ M1, M1 = L1 ++ R1 := ⟨_, rfl⟩
        have P1 : Hid (M1.Perm (L1 ++ R1)) := by rw [hM1]; exact List.Perm.refl _
        have S1 : Hid (M1.Pairwise (bef keys true)) := by
          show M1.Pairwise (bef keys true)
          rw [hM1, hnil1]; simpa using HS3.out
        have O2 : Hid (w1.ownsRow base 3 1 (.slice (some ⟨g, 0, none⟩) n cap) n (cellsN (P ++ M1 ++ L2 ++ R2 ++ Q))) := by
          show w1.ownsRow base 3 1 (.slice (some ⟨g, 0, none⟩) n cap) n (cellsN (P ++ M1 ++ L2 ++ R2 ++ Q))
          rw [hM1]; simpa using O1.out
        clear hnil1 hM1 G1 K1 O1
        have HM1 : Hid (M1.length = l + r1) := by rw [Hid, P1.out.length_eq, List.length_append, HL1.out, HL3.out]
        go_wp2_with fail
        refine (HIH.out (P ++ M1) L2 R2 Q _ _ _ _ ?_ ?_ ?_ ?_ ?_ ?_ O2.out K2.out HS2.out HS4.out HX24.out HI24.out).mono ?_
        · rw [HL2.out, HL4.out]; exact HN2.out
        · rw [HL2.out]; omega
        · rw [HL4.out]; omega
        · rw [List.length_append, HM1.out, ← HA.out]; have := B2.out; omega
        · rw [List.length_append, HM1.out, HL2.out, ← HA.out]; have := B2.out; have := HEN.out; omega
        · rw [List.length_append, HM1.out, HL2.out, HL4.out, ← HA.out]; have := B2.out; have := B3.out; omega
        rintro e w3 ⟨rfl, M2, hp2, hs2, ho3, hg3⟩
        have P2 := hide hp2
        have S2 := hide hs2
        have G3 := hide (gb_trans G2.out hg3)
        have O3 := hide ho3
        clear hp2 hs2 ho3 hg3 G2 K2 O2
        go_wp2
        first | go_end0 | refine bodyPost_ret (results_none rfl _ _ _) rfl ?_
        exact ⟨rfl, M1 ++ M2, HPERM'.out M1 M2 P1.out P2.out, sym_sorted HC'.out P1.out P2.out S1.out S2.out, by simpa using O3.out, G3.out⟩
      · have T1 : ¬ ((a : Int) + l < (m : Int)) := by have := B1.out; omega
        have T2 : ¬ ((m : Int) < (en : Int)) := by have := B1.out; have := B2.out; have := HEN.out; omega
        have T3 : ((a : Int) < (a : Int) + l) := by omega
        have T4 : ¬ ((a : Int) + l < (mid : Int)) := by have := B2.out; omega
        have T5 : ¬ ((mid : Int) < (en : Int)) := by have := HEN.out; omega
        have T6 : ((en : Int) < (b : Int)) := by have := HEN.out; have := B3.out; omega
        have hnil : L2 = [] := List.length_eq_zero_iff.1 (by rw [HL2.out]; omega)
        have G1 := hide HGB.out
        have K1 := hide HKEYS.out
        have O1 : Hid (wr.ownsRow base 3 1 (.slice (some ⟨g, 0, none⟩) n cap) n (cellsN (P ++ L1 ++ R1 ++ (L2 ++ R2 ++ Q)))) := by
          show wr.ownsRow base 3 1 (.slice (some ⟨g, 0, none⟩) n cap) n (cellsN (P ++ L1 ++ R1 ++ (L2 ++ R2 ++ Q)))
          have := HOW.out
          rw [hnil] at this ⊢
          simpa using this
        clear HGB HKEYS HOW hnil
        have hnil1 : R1 = [] := List.length_eq_zero_iff.1 (by rw [HL3.out]; omega)
        have G2 := hide G1.out
        have K2 := hide K1.out
        obtain ⟨M1, hM1⟩ : ∃ M1, M1 = L1 ++ R1 := ⟨_, rfl⟩
        have P1 : Hid (M1.Perm (L1 ++ R1)) := by rw [hM1]; exact List.Perm.refl _
        have S1 : Hid (M1.Pairwise (bef keys true)) := by
          show M1.Pairwise (bef keys true)
          rw [hM1, hnil1]; simpa using HS1.out
        have O2 : Hid (wr.ownsRow base 3 1 (.slice (some ⟨g, 0, none⟩) n cap) n (cellsN (P ++ M1 ++ L2 ++ R2 ++ Q))) := by
          show wr.ownsRow base 3 1 (.slice (some ⟨g, 0, none⟩) n cap) n (cellsN (P ++ M1 ++ L2 ++ R2 ++ Q))
          rw [hM1]; simpa using O1.out
        clear hnil1 hM1 G1 K1 O1
        have HM1 : Hid (M1.length = l + r1) := by rw [Hid, P1.out.length_eq, List.length_append, HL1.out, HL3.out]
        have hnil2 : L2 = [] := List.length_eq_zero_iff.1 (by rw [HL2.out]; omega)
        obtain ⟨M2, hM2⟩ : ∃ M2, M2 = L2 ++ R2 := ⟨_, rfl⟩
        have P2 : Hid (M2.Perm (L2 ++ R2)) := by rw [hM2]; exact List.Perm.refl _
        have S2 : Hid (M2.Pairwise (bef keys true)) := by
          show M2.Pairwise (bef keys true)
          rw [hM2, hnil2]; simpa using HS4.out
        have G3 := hide G2.out
        have O3 : Hid (wr.ownsRow base 3 1 (.slice (some ⟨g, 0, none⟩) n cap) n (cellsN (P ++ M1 ++ M2 ++ Q))) := by
          show wr.ownsRow base 3 1 (.slice (some ⟨g, 0, none⟩) n cap) n (cellsN (P ++ M1 ++ M2 ++ Q))
          rw [hM2]; simpa using O2.out
        clear hnil2 hM2 G2 K2 O2
        go_wp2
        first | go_end0 | refine bodyPost_ret (results_none rfl _ _ _) rfl ?_
        exact ⟨rfl, M1 ++ M2, HPERM'.out M1 M2 P1.out P2.out, sym_sorted HC'.out P1.out P2.out S1.out S2.out, by simpa using O3.out, G3.out⟩
      · have T1 : ¬ ((a : Int) + l < (m : Int)) := by have := B1.out; omega
        have T2 : ((m : Int) < (en : Int)) := by have := B1.out; have := B2.out; have := HEN.out; omega
        have T3 : ((a : Int) < (a : Int) + l) := by omega
        have T4 : ((a : Int) + l < (mid : Int)) := by have := B2.out; omega
        have T5 : ¬ ((mid : Int) < (en : Int)) := by have := HEN.out; omega
        have T6 : ((en : Int) < (b : Int)) := by have := HEN.out; have := B3.out; omega
        have hnil : L2 = [] := List.length_eq_zero_iff.1 (by rw [HL2.out]; omega)
        have G1 := hide HGB.out
        have K1 := hide HKEYS.out
        have O1 : Hid (wr.ownsRow base 3 1 (.slice (some ⟨g, 0, none⟩) n cap) n (cellsN (P ++ L1 ++ R1 ++ (L2 ++ R2 ++ Q)))) := by
          show wr.ownsRow base 3 1 (.slice (some ⟨g, 0, none⟩) n cap) n (cellsN (P ++ L1 ++ R1 ++ (L2 ++ R2 ++ Q)))
          have := HOW.out
          rw [hnil] at this ⊢
          simpa using this
        clear HGB HKEYS HOW hnil
        go_wp2_with fail
        refine (HIH.out P L1 R1 (L2 ++ R2 ++ Q) _ _ _ _ ?_ ?_ ?_ ?_ ?_ ?_ O1.out K1.out HS1.out HS3.out HX13.out HI13.out).mono ?_
        · rw [HL1.out, HL3.out]; exact HN1.out
        · rw [HL1.out]; omega
        · rw [HL3.out]; omega
        · rw [← HA.out]
        · rw [HL1.out, ← HA.out]
        · rw [HL1.out, HL3.out, ← HA.out]; have := B2.out; omega
        rintro e w2 ⟨rfl, M1, hp1, hs1, ho2, hg2⟩
        have G2 := hide (gb_trans G1.out hg2)
        have K2 := hide (K1.out.grown hg2 hbx hak)
        have P1 := hide hp1
        have S1 := hide hs1
        have O2 : Hid (w2.ownsRow base 3 1 (.slice (some ⟨g, 0, none⟩) n cap) n (cellsN (P ++ M1 ++ L2 ++ R2 ++ Q))) := by
          show w2.ownsRow base 3 1 (.slice (some ⟨g, 0, none⟩) n cap) n (cellsN (P ++ M1 ++ L2 ++ R2 ++ Q))
          simpa using ho2
        clear hp1 hs1 ho2 hg2 G1 K1 O1
        have HM1 : Hid (M1.length = l + r1) := by rw [Hid, P1.out.length_eq, List.length_append, HL1.out, HL3.out]
        have hnil2 : L2 = [] := List.length_eq_zero_iff.1 (by rw [HL2.out]; omega)
        obtain ⟨M2, hM2⟩ : ∃ M2, M2 = L2 ++ R2 := ⟨_, rfl⟩
        have P2 : Hid (M2.Perm (L2 ++ R2)) := by rw [hM2]; exact List.Perm.refl _
        have S2 : Hid (M2.Pairwise (bef keys true)) := by
          show M2.Pairwise (bef keys true)
          rw [hM2, hnil2]; simpa using HS4.out
        have G3 := hide G2.out
        have O3 : Hid (w2.ownsRow base 3 1 (.slice (some ⟨g, 0, none⟩) n cap) n (cellsN (P ++ M1 ++ M2 ++ Q))) := by
          show w2.ownsRow base 3 1 (.slice (some ⟨g, 0, none⟩) n cap) n (cellsN (P ++ M1 ++ M2 ++ Q))
          rw [hM2]; simpa using O2.out
        clear hnil2 hM2 G2 K2 O2
        go_wp2
        first | go_end0 | refine bodyPost_ret (results_none rfl _ _ _) rfl ?_
        exact ⟨rfl, M1 ++ M2, HPERM'.out M1 M2 P1.out P2.out, sym_sorted HC'.out P1.out P2.out S1.out S2.out, by simpa using O3.out, G3.out⟩
      · have T1 : ((a : Int) + l < (m : Int)) := by have := B1.out; omega
        have T2 : ((m : Int) < (en : Int)) := by have := B1.out; have := B2.out; have := HEN.out; omega
        have T3 : ((a : Int) < (a : Int) + l) := by omega
        have T4 : ((a : Int) + l < (mid : Int)) := by have := B2.out; omega
        have T5 : ((mid : Int) < (en : Int)) := by have := HEN.out; omega
        have T6 : ((en : Int) < (b : Int)) := by have := HEN.out; have := B3.out; omega
        go_wp2_with fail
        refine (rotate_any base g n cap (P ++ L1) L2 R1 (R2 ++ Q) _ _ _ _ _ ?_ ?_ ?_ ?_ ?_ HOW.out hn).mono ?_
        · rw [List.length_append, HL1.out, ← HA.out]; omega
        · rw [List.length_append, HL1.out, HL2.out, ← HA.out]; have := B1.out; omega
        · rw [List.length_append, HL1.out, HL2.out, HL3.out, ← HA.out]; have := B1.out; have := B2.out; have := HEN.out; omega
        · rw [HL2.out]; omega
        · rw [HL3.out]; omega
        rintro e w1 ⟨rfl, ho1, hg1⟩
        have G1 := hide (gb_trans HGB.out hg1)
        have K1 := hide (HKEYS.out.grown hg1 hbx hak)
        have O1 : Hid (w1.ownsRow base 3 1 (.slice (some ⟨g, 0, none⟩) n cap) n (cellsN (P ++ L1 ++ R1 ++ (L2 ++ R2 ++ Q)))) := by
          show w1.ownsRow base 3 1 (.slice (some ⟨g, 0, none⟩) n cap) n (cellsN (P ++ L1 ++ R1 ++ (L2 ++ R2 ++ Q)))
          simpa using ho1
        clear ho1 hg1 HGB HKEYS HOW
        go_wp2_with fail
        refine (HIH.out P L1 R1 (L2 ++ R2 ++ Q) _ _ _ _ ?_ ?_ ?_ ?_ ?_ ?_ O1.out K1.out HS1.out HS3.out HX13.out HI13.out).mono ?_
        · rw [HL1.out, HL3.out]; exact HN1.out
        · rw [HL1.out]; omega
        · rw [HL3.out]; omega
        · rw [← HA.out]
        · rw [HL1.out, ← HA.out]
        · rw [HL1.out, HL3.out, ← HA.out]; have := B2.out; omega
        rintro e w2 ⟨rfl, M1, hp1, hs1, ho2, hg2⟩
        have G2 := hide (gb_trans G1.out hg2)
        have K2 := hide (K1.out.grown hg2 hbx hak)
        have P1 := hide hp1
        have S1 := hide hs1
        have O2 : Hid (w2.ownsRow base 3 1 (.slice (some ⟨g, 0, none⟩) n cap) n (cellsN (P ++ M1 ++ L2 ++ R2 ++ Q))) := by
          show w2.ownsRow base 3 1 (.slice (some ⟨g, 0, none⟩) n cap) n (cellsN (P ++ M1 ++ L2 ++ R2 ++ Q))
          simpa using ho2
        clear hp1 hs1 ho2 hg2 G1 K1 O1
        have HM1 : Hid (M1.length = l + r1) := by rw [Hid, P1.out.length_eq, List.length_append, HL1.out, HL3.out]
        go_wp2_with fail
        refine (HIH.out (P ++ M1) L2 R2 Q _ _ _ _ ?_ ?_ ?_ ?_ ?_ ?_ O2.out K2.out HS2.out HS4.out HX24.out HI24.out).mono ?_
        · rw [HL2.out, HL4.out]; exact HN2.out
        · rw [HL2.out]; omega
        · rw [HL4.out]; omega
        · rw [List.length_append, HM1.out, ← HA.out]; have := B2.out; omega
        · rw [List.length_append, HM1.out, HL2.out, ← HA.out]; have := B2.out; have := HEN.out; omega
        · rw [List.length_append, HM1.out, HL2.out, HL4.out, ← HA.out]; have := B2.out; have := B3.out; omega
        rintro e w3 ⟨rfl, M2, hp2, hs2, ho3, hg3⟩
        have P2 := hide hp2
        have S2 := hide hs2
        have G3 := hide (gb_trans G2.out hg3)
        have O3 := hide ho3
        clear hp2 hs2 ho3 hg3 G2 K2 O2
        go_wp2
        first | go_end0 | refine bodyPost_ret (results_none rfl _ _ _) rfl ?_
        exact ⟨rfl, M1 ++ M2, HPERM'.out M1 M2 P1.out P2.out, sym_sorted HC'.out P1.out P2.out S1.out S2.out, by simpa using O3.out, G3.out⟩
end Go.Proofs.YtphdeojiehigpaaGreatDoor

/- The library's insertion sort over a piece of a row of places, with the program's function literal that compares by keys (Down). -/
namespace Go.Proofs.YtphdeojiehigpaaGreatDoor
open Go.RowKit

set_option maxHeartbeats 3200000 in
theorem insDown_any (base g n cap bx : Nat) (ak : Option Addr) (nk ck : Nat) (keys : List Int) (P M Q : List Nat) (A B : Int) (w : World)
    (hA : A = P.length) (hB : B = P.length + M.length) (hM0 : 1 ≤ M.length)
    (hown : w.ownsRow base 3 1 (.slice (some ⟨g, 0, none⟩) n cap) n (cellsN (P ++ M ++ Q))) (hk : Keys w bx ak nk ck keys) (hbx : bx ≠ g) (hak : ∀ x, ak = some x → x.block ≠ g)
    (hM : M.Pairwise (· < ·)) (hin : ∀ p ∈ M, p < nk) (hn : n ≤ 1048576) :
    Calls Tryz.prog 206 #[.slice (some ⟨g, 0, none⟩) n cap, .int .i64 A, .int .i64 B, .func (Fn.func 202) #[] #[.pointer (some ⟨bx, 0, none⟩)]] w fun e w' =>
      e = .returned (.tuple #[]) ∧ ∃ M', M'.Perm M ∧ M'.Pairwise (bef keys true) ∧ w'.ownsRow base 3 1 (.slice (some ⟨g, 0, none⟩) n cap) n (cellsN (P ++ M' ++ Q)) ∧ w.grownBy w' (some g) := by
  subst hA hB
  have hlen : P.length + M.length + Q.length = n := by have := hown.1; simp [cellsN] at this; omega
  go_enter Tryz.func206, Tryz.ntmps206
  go_wp2
  go_loopw [8] (fun i wr => ∃ (t : Nat) (T : List Nat), 1 ≤ t ∧ t ≤ M.length ∧ i = .int .i64 ((P.length : Int) + t) ∧ T.Perm (M.take t) ∧ T.Pairwise (bef keys true) ∧ wr.ownsRow base 3 1 (.slice (some ⟨g, 0, none⟩) n cap) n (cellsN (P ++ T ++ (M.drop t ++ Q))) ∧ w.grownBy wr (some g)) (fun i _ => ((P.length : Int) + M.length - intOf i).toNat)
  case atStart => exact ⟨1, M.take 1, Nat.le_refl _, hM0, by go_num, List.Perm.refl _, take1_sorted _ _ _, by rw [cut_one]; exact hown, World.grownBy.refl _ _⟩
  case round =>
    obtain ⟨t, T, ht1, ht2, rfl, hperm, hsort, how, hgb⟩ := hrel
    by_cases hlt : t < M.length
    · have hTl : T.length = t := by rw [hperm.length_eq, List.length_take]; omega
      have hx : M.drop t = M[t] :: M.drop (t + 1) := List.drop_eq_getElem_cons hlt
      have hltx : ∀ y ∈ T, y < M[t] := fun y hy => take_lt hM t hlt y (hperm.mem_iff.1 hy)
      have hinT : ∀ y ∈ T, y < nk := fun y hy => hin y (List.mem_of_mem_take (hperm.mem_iff.1 hy))
      have hinx : M[t] < nk := hin _ (List.getElem_mem hlt)
      have hpt : (T ++ [M[t]]).Perm (M.take (t + 1)) := by
        rw [List.take_succ_eq_append_getElem hlt]; exact hperm.append_right _
      rw [hx] at how
      clear hx
      generalize hxx : M[t] = x at *
      generalize hrest : M.drop (t + 1) = rest at *
      have HR : Hid (M.drop (t + 1) = rest) := hrest
      clear hxx hrest
      have hHT := hide hTl
      clear hTl
      go_wp2
      obtain ⟨wo, rfl⟩ : ∃ wo : World, wo = wr := ⟨_, rfl⟩
      go_loopw [9] (fun j wi => ∃ (S R : List Nat) (k : Nat), S ++ R = T ∧ k = P.length + S.length ∧ j = .int .i64 (k : Int) ∧ (∀ r ∈ R, lts keys true x r = true) ∧ wi.ownsRow base 3 1 (.slice (some ⟨g, 0, none⟩) n cap) n (cellsN (P ++ S ++ x :: (R ++ (rest ++ Q)))) ∧ w.grownBy wi (some g)) (fun j _ => (intOf j).toNat)
      case atStart => exact ⟨T, [], P.length + t, List.append_nil _, by rw [hHT.out], by go_num, fun r hr => by simp at hr, how, hgb⟩
      case round =>
        clear how hgb
        obtain ⟨S, R, k, hSR, hks, rfl, hRx, how, hgb⟩ := hrel
        have hkeys := hk.grown hgb hbx hak
        have hl2 : (P ++ S ++ x :: (R ++ (rest ++ Q))).length = n := by have := how.1; simpa [cellsN] using this
        rcases nil_or_last S with rfl | ⟨S', y, rfl⟩
        · have hk0 : k = P.length := by simpa using hks
          subst hk0
          have hT0 : R = T := by simpa using hSR
          subst hT0
          have hfin := ins_done (S := []) (by simpa using hsort) (by simpa using hltx) hRx (Or.inl rfl)
          have HFIN := hide hfin
          have HOW := hide how
          have HGB := hide hgb
          have hd : decide ((P.length : Int) < (P.length : Int)) = false := by simp
          clear hfin how hgb hSR hks hRx hsort hltx
          go_wp2
          go_quiet (fail)
          go_wp2
          go_roundw
          case rel => exact ⟨t + 1, x :: R, by omega, by omega, by go_num, (ins_perm [] R x).trans hpt, HFIN.out, by rw [HR.out]; simpa using own_drew HOW.out _, gb_drew HGB.out _⟩
          case measure => simp [intOf]; omega
        · have hi0 : k = P.length + S'.length + 1 := by simp at hks; omega
          have hyT : y ∈ T := by rw [← hSR]; simp
          have hyk := hinT y hyT
          obtain ⟨i, hi⟩ : ∃ i, i = P.length + S'.length := ⟨_, rfl⟩
          have hki : k = i + 1 := by omega
          subst hki
          have hin2 : i + 1 < n := by rw [← hl2]; simp; omega
          have hPi : P.length ≤ i := by omega
          have c1 : wr.cell? ⟨g, i + 1, none⟩ = some (.int .i64 (x : Int)) := own_get how (i + 1) x (by rw [hi]; exact mid_x P S' _ x y)
          have c0 : wr.cell? ⟨g, i, none⟩ = some (.int .i64 (y : Int)) := own_get how i y (by rw [hi]; exact mid_y P S' _ x y)
          have hcmp := cmpDown_any x y bx ak nk ck keys
          have hiff := cmp_lt_down keys x y
          have hd : decide ((P.length : Int) < (i : Int) + 1) = true := by simp; omega
          have hsub : (i : Int) + 1 - 1 = (i : Int) := by omega
          have HCMP := hide hcmp
          have HKEYS := hide hkeys
          have HI := hide hi
          clear hcmp hkeys hi hi0 hks
          by_cases hxy : lts keys true x y = true
          · have hneg := hiff.2 hxy
            have HST : Hid (∀ m, (((wr.drewN m).setCell ⟨g, i + 1, none⟩ (.int .i64 (y : Int))).setCell ⟨g, i, none⟩ (.int .i64 (x : Int))).ownsRow base 3 1 (.slice (some ⟨g, 0, none⟩) n cap) n (cellsN (P ++ S' ++ x :: (y :: R ++ (rest ++ Q))))) := by
              intro m
              have hst := own_put (own_put (own_drew how m) (i + 1) y) i x
              rw [swap_mid P S' (R ++ (rest ++ Q)) y x i HI.out] at hst
              exact hst
            have f0 : wr.frozen? ⟨g, i, none⟩ = false := how.frozenAt i
            have f1 : wr.frozen? ⟨g, i + 1, none⟩ = false := how.frozenAt (i + 1)
            have HGB : Hid (∀ m, w.grownBy (((wr.drewN m).setCell ⟨g, i + 1, none⟩ (.int .i64 (y : Int))).setCell ⟨g, i, none⟩ (.int .i64 (x : Int))) (some g)) := fun m => gb_set (gb_set (gb_drew hgb m) (i + 1) _) i _
            have HRX : Hid (∀ r ∈ y :: R, lts keys true x r = true) := by
              intro r hr
              rcases List.mem_cons.1 hr with rfl | hr
              · exact hxy
              · exact hRx r hr
            have HSR : Hid (S' ++ (y :: R) = T) := by rw [Hid, ← hSR]; simp
            have HTT := hide (And.intro hsort (And.intro hltx (And.intro hperm hpt)))
            generalize cmpI (keys.getD y 0) (keys.getD x 0) = c at *
            clear how hgb hRx hSR hiff hxy hsort hltx hperm hpt
            go_wp2
            go_quiet ((go_at_call 202; exact Calls.quiet_of (HCMP.out _ (HKEYS.out.drewN _) hinx hyk)))
            go_wp2
            go_region
            go_wp2
            go_roundw
            case rel => exact ⟨S', y :: R, i, HSR.out, HI.out, by go_num, HRX.out, HST.out _, HGB.out _⟩
            case measure => simp [intOf]
          · have hxn : lts keys true x y = false := by simpa using hxy
            have hneg : ¬ cmpI (keys.getD y 0) (keys.getD x 0) < 0 := fun h => hxy (hiff.1 h)
            have hfin := ins_done (S := S' ++ [y]) (by rw [hSR]; exact hsort) (by rw [hSR]; exact hltx) hRx (Or.inr ⟨S', y, rfl, hxn⟩)
            have HFIN := hide hfin
            have hpp : ((S' ++ [y]) ++ x :: R).Perm (M.take (t + 1)) := by
              refine (ins_perm _ R x).trans ?_
              rw [hSR]; exact hpt
            have HPP := hide hpp
            have HOW := hide how
            have HGB := hide hgb
            generalize cmpI (keys.getD y 0) (keys.getD x 0) = c at *
            clear hfin how hgb hRx hSR hiff hxy hxn hsort hltx hperm hpt hpp
            go_wp2
            go_quiet ((go_at_call 202; exact Calls.quiet_of (HCMP.out _ (HKEYS.out.drewN _) hinx hyk)))
            go_wp2
            go_roundw
            case rel => exact ⟨t + 1, (S' ++ [y]) ++ x :: R, by omega, by omega, by go_num, HPP.out, HFIN.out, by rw [HR.out]; simpa using own_drew HOW.out _, gb_drew HGB.out _⟩
            case measure => simp [intOf]; omega
    · have htm : t = M.length := by omega
      subst htm
      rw [List.take_length] at hperm
      rw [List.drop_length, List.nil_append] at how
      go_wp2
      go_end0
      exact ⟨rfl, T, hperm, hsort, how, hgb⟩
end Go.Proofs.YtphdeojiehigpaaGreatDoor

/- The library's stable sort of places by keys (Down): symMerge at every length, then the whole. -/
namespace Go.Proofs.YtphdeojiehigpaaGreatDoor
open Go.RowKit

theorem symDown_all (base g n cap bx : Nat) (ak : Option Addr) (nk ck : Nat) (keys : List Int) (hbx : bx ≠ g) (hak : ∀ x, ak = some x → x.block ≠ g) (hn : n ≤ 1048576) : ∀ N, SymSaidDown base g n cap bx ak nk ck keys N
  | 0 => fun P L R Q A M B w hN hL hR => by omega
  | N + 1 => fun P L R Q A M B w hN hL hR hA hM hB hown hk hLs hRs hLR hin => by
    have ih := symDown_all base g n cap bx ak nk ck keys hbx hak hn N
    by_cases h1 : L.length = 1
    · obtain ⟨x, rfl⟩ := List.length_eq_one_iff.1 h1
      exact symLeftDown base g n cap bx ak nk ck keys P R Q x A M B w hA (by simpa using hM) (by simpa using hB) hR hown hk hbx hak hRs (fun y hy => hLR x (by simp) y hy) (fun p hp => hin p (List.mem_append_right _ hp)) (hin x (by simp)) hn
    · by_cases h2 : R.length = 1
      · obtain ⟨y, rfl⟩ := List.length_eq_one_iff.1 h2
        exact symRightDown base g n cap bx ak nk ck keys P L Q y A M B w hA hM (by simpa using hB) (by omega) hown hk hbx hak hLs (fun x hx => hLR x hx y (by simp)) (fun p hp => hin p (List.mem_append_left _ hp)) (hin y (by simp)) hn
      · have eA : A = ((P.length : Nat) : Int) := hA
        have eM : M = ((P.length + L.length : Nat) : Int) := by omega
        have eB : B = ((P.length + L.length + R.length : Nat) : Int) := by omega
        rw [eA, eM, eB]
        by_cases hmm : (P.length + (P.length + L.length + R.length)) / 2 < P.length + L.length
        · exact symStepDownA base g n cap bx ak nk ck keys N ih hbx hak hn P L R Q _ _ _ _ w hN rfl rfl rfl (by omega) (by omega) rfl hmm hown hk hLs hRs hLR hin
        · exact symStepDownB base g n cap bx ak nk ck keys N ih hbx hak hn P L R Q _ _ _ _ w hN rfl rfl rfl (by omega) (by omega) rfl hmm hown hk hLs hRs hLR hin

set_option maxHeartbeats 400000 in
/-- The insertion sort over nothing. -/
theorem insNoneDown (g n cap : Nat) (A B : Int) (fv : Value) (w : World) (h : B ≤ A) (hA : 0 ≤ A) (hA1 : A ≤ 1048576) :
    Calls Tryz.prog 206 #[.slice (some ⟨g, 0, none⟩) n cap, .int .i64 A, .int .i64 B, fv] w fun e w' => e = .returned (.tuple #[]) ∧ w' = w := by
  have h1 : ¬ A + 1 < B := by omega
  go_enter Tryz.func206, Tryz.ntmps206
  go_wp2
  refine wp_loop_rounds 1 ?_
  rw [rounds_succ]
  go_wp2
  go_end0
  exact ⟨rfl, rfl⟩

/-- One piece of the row sorted by insertion, by its places. -/
theorem insSegDown (base g n cap bx : Nat) (ak : Option Addr) (ck : Nat) (keys : List Int) (D : List Nat) (x y : Nat) (A B : Int) (w : World) (hA : A = x) (hB : B = y) (hxy : x ≤ y) (hyn : y ≤ n) (hl : D.length = n)
    (hown : w.ownsRow base 3 1 (.slice (some ⟨g, 0, none⟩) n cap) n (cellsN D)) (hk : Keys w bx ak n ck keys) (hbx : bx ≠ g) (hak : ∀ x, ak = some x → x.block ≠ g) (hD : seg D x y = List.range' x (y - x)) (hn : n ≤ 1048576) :
    Calls Tryz.prog 206 #[.slice (some ⟨g, 0, none⟩) n cap, .int .i64 A, .int .i64 B, .func (Fn.func 202) #[] #[.pointer (some ⟨bx, 0, none⟩)]] w fun e w' =>
      e = .returned (.tuple #[]) ∧ ∃ M, M.Perm (List.range' x (y - x)) ∧ M.Pairwise (bef keys true) ∧ w'.ownsRow base 3 1 (.slice (some ⟨g, 0, none⟩) n cap) n (cellsN (put D x y M)) ∧ w.grownBy w' (some g) := by
  have hx : (D.take x).length = x := by rw [List.length_take]; omega
  have hs : (seg D x y).length = y - x := seg_len D x y hxy (by omega)
  by_cases he : x = y
  · refine (insNoneDown g n cap A B _ w (by omega) (by omega) (by omega)).mono ?_
    rintro e w' ⟨rfl, rfl⟩
    refine ⟨rfl, [], ?_, List.Pairwise.nil, ?_, World.grownBy.refl _ _⟩
    · have : y - x = 0 := by omega
      rw [this]; exact List.Perm.refl _
    · subst he
      unfold put
      rw [List.append_nil, List.take_append_drop]
      exact hown
  · refine (insDown_any base g n cap bx ak n ck keys (D.take x) (seg D x y) (D.drop y) A B w (by rw [hx]; exact hA) (by rw [hx, hs]; omega) (by omega) (by rw [← cut3 D x y hxy]; exact hown) hk hbx hak (by rw [hD]; exact range_lt _ _) ?_ hn).mono ?_
    · intro p hp
      rw [hD] at hp
      have := mem_rng hp
      omega
    · rintro e w' ⟨rfl, M, hp, hs2, ho, hg⟩
      rw [hD] at hp
      exact ⟨rfl, M, hp, hs2, ho, hg⟩

/-- Two sorted pieces side by side merged. -/
theorem symSegDown (base g n cap bx : Nat) (ak : Option Addr) (ck : Nat) (keys : List Int) (D : List Nat) (x y z : Nat) (A M B : Int) (w : World) (hA : A = x) (hM : M = y) (hB : B = z) (hxy : x < y) (hyz : y < z) (hzn : z ≤ n) (hl : D.length = n)
    (hown : w.ownsRow base 3 1 (.slice (some ⟨g, 0, none⟩) n cap) n (cellsN D)) (hk : Keys w bx ak n ck keys) (hbx : bx ≠ g) (hak : ∀ x, ak = some x → x.block ≠ g) (h1 : Srt keys true D x y) (h2 : Srt keys true D y z) (hn : n ≤ 1048576) :
    Calls Tryz.prog 207 #[.slice (some ⟨g, 0, none⟩) n cap, .int .i64 A, .int .i64 M, .int .i64 B, .func (Fn.func 202) #[] #[.pointer (some ⟨bx, 0, none⟩)]] w fun e w' =>
      e = .returned (.tuple #[]) ∧ ∃ M, M.Perm (List.range' x (z - x)) ∧ M.Pairwise (bef keys true) ∧ w'.ownsRow base 3 1 (.slice (some ⟨g, 0, none⟩) n cap) n (cellsN (put D x z M)) ∧ w.grownBy w' (some g) := by
  have hx : (D.take x).length = x := by rw [List.length_take]; omega
  have hs1 : (seg D x y).length = y - x := seg_len D x y (by omega) (by omega)
  have hs2 : (seg D y z).length = z - y := seg_len D y z (by omega) (by omega)
  refine (symDown_all base g n cap bx ak n ck keys hbx hak hn ((seg D x y).length + (seg D y z).length) (D.take x) (seg D x y) (seg D y z) (D.drop z) A M B w (Nat.le_refl _) (by omega) (by omega) (by rw [hx]; exact hA) (by rw [hx, hs1]; omega) (by rw [hx, hs1, hs2]; omega) (by rw [← cut4 D x y z (by omega) (by omega)]; exact hown) hk h1.1 h2.1 ?_ ?_).mono ?_
  · intro p hp q hq
    have := srt_mem h1 hp
    have := srt_mem h2 hq
    omega
  · intro p hp
    rcases List.mem_append.1 hp with hp | hp
    · have := srt_mem h1 hp; omega
    · have := srt_mem h2 hp; omega
  · rintro e w' ⟨rfl, M', hp, hs, ho, hg⟩
    exact ⟨rfl, M', merged (by omega) (by omega) h1 h2 hp, hs, ho, hg⟩
end Go.Proofs.YtphdeojiehigpaaGreatDoor

/- The library's stable sort of the places by their keys (Down), and the program's sort. -/
namespace Go.Proofs.YtphdeojiehigpaaGreatDoor
open Go.RowKit

set_option maxRecDepth 100000 in
set_option maxHeartbeats 6400000 in
theorem stableDown_any (base g n cap bx : Nat) (ak : Option Addr) (ck : Nat) (keys : List Int) (w : World) (hown : w.ownsRow base 3 1 (.slice (some ⟨g, 0, none⟩) n cap) n (cellsN (List.range n))) (hk : Keys w bx ak n ck keys) (hbx : bx ≠ g) (hak : ∀ x, ak = some x → x.block ≠ g) (hn : n ≤ 1048576) :
    Calls Tryz.prog 204 #[.slice (some ⟨g, 0, none⟩) n cap, .int .i64 (n : Int), .func (Fn.func 202) #[] #[.pointer (some ⟨bx, 0, none⟩)]] w fun e w' =>
      e = .returned (.tuple #[]) ∧ w'.ownsRow base 3 1 (.slice (some ⟨g, 0, none⟩) n cap) n (cellsN (sortP keys true (List.range n))) ∧ w.grownBy w' (some g) := by
  have HK := hide hk
  have HO := hide hown
  have HS := hide (invA_start keys true n)
  clear hk hown
  go_enter Tryz.func204, Tryz.ntmps204
  go_wp2
  go_loopw [7, 8] (fun a b wr => ∃ (x : Nat) (D : List Nat), x ≤ n ∧ a = .int .i64 (x : Int) ∧ b = .int .i64 ((x : Int) + 20) ∧ InvA keys true n x D ∧ wr.ownsRow base 3 1 (.slice (some ⟨g, 0, none⟩) n cap) n (cellsN D) ∧ w.grownBy wr (some g)) (fun a _ _ => n - (intOf a).toNat)
  case atStart => exact ⟨0, List.range n, Nat.zero_le _, rfl, rfl, HS.out, HO.out, World.grownBy.refl _ _⟩
  case round =>
    obtain ⟨x, D, hxn, rfl, rfl, hinv, how, hgb⟩ := hrel
    have hkw := HK.out.grown hgb hbx hak
    have hl := hinv.1
    have HI := hide hinv
    have HW := hide how
    have HG := hide hgb
    have HKW := hide hkw
    have HL := hide hl
    clear hinv how hgb hkw hl
    by_cases hx : x + 20 ≤ n
    · have t1 : (x : Int) + 20 ≤ (n : Int) := by omega
      go_wp2_with fail
      refine (insSegDown base g n cap bx ak ck keys D x (x + 20) _ _ wr ?_ ?_ ?_ ?_ HL.out HW.out HKW.out hbx hak ?_ hn).mono ?_
      · rfl
      · omega
      · omega
      · exact hx
      · exact invA_seg HI.out hx
      rintro e w1 ⟨rfl, M, hp, hs, ho, hg⟩
      have HI1 := hide (invA_step HI.out hx hp hs)
      have HG1 := hide (gb_trans HG.out hg)
      have HO1 := hide ho
      clear hp hs ho hg
      go_wp2
      go_roundw
      case rel => exact ⟨x + 20, _, hx, by go_num, by go_num, HI1.out, HO1.out, HG1.out⟩
      case measure => simp [intOf]; omega
    · have t1 : ¬ (x : Int) + 20 ≤ (n : Int) := by omega
      go_wp2_with fail
      refine (insSegDown base g n cap bx ak ck keys D x n _ _ wr ?_ ?_ hxn (Nat.le_refl _) HL.out HW.out HKW.out hbx hak ?_ hn).mono ?_
      · rfl
      · rfl
      · exact invA_seg HI.out (Nat.le_refl _)
      rintro e w1 ⟨rfl, M, hp, hs, ho, hg⟩
      have HB1 := hide (invA_end HI.out (by omega) hp hs)
      have HG1 := hide (gb_trans HG.out hg)
      have HO1 := hide ho
      clear hp hs ho hg HI HW HG HKW HL
      go_wp2
      obtain ⟨wo, rfl⟩ : ∃ wo : World, wo = wr := ⟨_, rfl⟩
      go_loopw [6, 7, 8, 9] (fun s _ _ _ wr => ∃ (bs : Nat) (E : List Nat), 20 ≤ bs ∧ (bs = 20 ∨ bs ≤ 2 * n) ∧ s = .int .i64 (bs : Int) ∧ Blks keys true n bs E ∧ wr.ownsRow base 3 1 (.slice (some ⟨g, 0, none⟩) n cap) n (cellsN E) ∧ w.grownBy wr (some g)) (fun s _ _ _ _ => 2 * n - (intOf s).toNat)
      case atStart => exact ⟨20, _, Nat.le_refl _, Or.inl rfl, rfl, HB1.out, HO1.out, HG1.out⟩
      case round =>
        clear HB1 HG1 HO1
        obtain ⟨bs, E, hbs, hbs2, rfl, hblk, how, hgb⟩ := hrel
        have hbs3 : bs ≤ 2097152 := by omega
        have HBL := hide hblk
        have HW := hide how
        have HG := hide hgb
        have HB2 := hide hbs2
        clear hblk how hgb hbs2
        by_cases hlt : bs < n
        · have hti : (bs : Int) < (n : Int) := by omega
          obtain ⟨b2, hb2⟩ : ∃ b2 : Nat, 2 * (bs : Int) = (b2 : Int) := ⟨2 * bs, by omega⟩
          have HB3 := hide (show b2 = 2 * bs by omega)
          have hb2n : b2 ≤ 2097152 := by omega
          have hb2c : (bs : Int) * 2 = (b2 : Int) := by omega
          go_wp2
          obtain ⟨wp, rfl⟩ : ∃ wp : World, wp = wr := ⟨_, rfl⟩
          go_loopw [7, 8] (fun a b wr => ∃ (x : Nat) (F : List Nat), x ≤ n ∧ a = .int .i64 (x : Int) ∧ b = .int .i64 ((x : Int) + b2) ∧ InvB keys true n bs x F ∧ wr.ownsRow base 3 1 (.slice (some ⟨g, 0, none⟩) n cap) n (cellsN F) ∧ w.grownBy wr (some g)) (fun a _ _ => n - (intOf a).toNat)
          case atStart => exact ⟨0, E, Nat.zero_le _, rfl, by go_num, invB_start HBL.out, HW.out, HG.out⟩
          case round =>
            clear HBL HW HG
            obtain ⟨x, F, hxn', rfl, rfl, hinv, how, hgb⟩ := hrel
            have hkw := HK.out.grown hgb hbx hak
            have HI := hide hinv
            have HW := hide how
            have HG := hide hgb
            have HKW := hide hkw
            clear hinv how hgb hkw
            by_cases hx2 : x + 2 * bs ≤ n
            · have t2 : (x : Int) + b2 ≤ (n : Int) := by omega
              go_wp2_with fail
              refine (symSegDown base g n cap bx ak ck keys F x (x + bs) (x + 2 * bs) _ _ _ wr ?_ ?_ ?_ ?_ ?_ hx2 HI.out.1 HW.out HKW.out hbx hak ?_ ?_ hn).mono ?_
              · rfl
              · omega
              · have := HB3.out; omega
              · omega
              · omega
              · exact invB_one HI.out (by omega) (by omega)
              · exact invB_two HI.out (by omega) (by omega)
              rintro e w2 ⟨rfl, M, hp, hs, ho, hg⟩
              have HI1 := hide (invB_step HI.out (by omega) hx2 hp hs)
              have HG1 := hide (gb_trans HG.out hg)
              have HO1 := hide ho
              clear hp hs ho hg
              go_wp2
              go_roundw
              case rel => exact ⟨x + 2 * bs, _, hx2, by go_num, by go_num, HI1.out, HO1.out, HG1.out⟩
              case measure => simp [intOf]; omega
            · have t2 : ¬ (x : Int) + b2 ≤ (n : Int) := by omega
              by_cases hx3 : x + bs < n
              · have t3 : (x : Int) + bs < (n : Int) := by omega
                go_wp2_with fail
                refine (symSegDown base g n cap bx ak ck keys F x (x + bs) n _ _ _ wr ?_ ?_ ?_ ?_ hx3 (Nat.le_refl _) HI.out.1 HW.out HKW.out hbx hak ?_ ?_ hn).mono ?_
                · rfl
                · omega
                · rfl
                · omega
                · exact invB_one HI.out (by omega) (by omega)
                · exact invB_two HI.out hx3 (by omega)
                rintro e w2 ⟨rfl, M, hp, hs, ho, hg⟩
                have HI1 := hide (invB_merge HI.out (by omega) hp hs)
                have HG1 := hide (gb_trans HG.out hg)
                have HO1 := hide ho
                clear hp hs ho hg
                go_wp2
                go_roundw
                case rel => exact ⟨2 * bs, _, by omega, Or.inr (by omega), by go_num, HI1.out, HO1.out, HG1.out⟩
                case measure => simp [intOf]; omega
              · have t3 : ¬ (x : Int) + bs < (n : Int) := by omega
                have HI1 := hide (invB_end HI.out (by omega) (by omega))
                go_wp2
                go_roundw
                case rel => exact ⟨2 * bs, _, by omega, Or.inr (by omega), by go_num, HI1.out, HW.out, HG.out⟩
                case measure => simp [intOf]; omega
        · have hti : ¬ (bs : Int) < (n : Int) := by omega
          have he := blk_end HBL.out (by omega)
          have HE := hide he
          clear he
          go_wp2
          go_end0
          exact ⟨rfl, by rw [← HE.out]; exact HW.out, HG.out⟩
end Go.Proofs.YtphdeojiehigpaaGreatDoor

/- The program's placesOf: a new row of the places 0, 1, .. -/
namespace Go.Proofs.YtphdeojiehigpaaGreatDoor
open Go.RowKit

theorem places_step (n k : Nat) (hk : k < n) : (cellsN (List.range k) ++ List.replicate (n - k) (Value.int .i64 0)).set k (.int .i64 (k : Int)) = cellsN (List.range (k + 1)) ++ List.replicate (n - (k + 1)) (.int .i64 0) := by
  have e : n - k = (n - (k + 1)) + 1 := by omega
  have hlen : (cellsN (List.range k)).length = k := by simp [cellsN]
  rw [e, List.replicate_succ, List.set_append_right _ _ (by omega), hlen, Nat.sub_self, List.set_cons_zero, List.range_succ]
  simp [cellsN]
theorem places_at (n k : Nat) (hk : k < n) : (cellsN (List.range k) ++ List.replicate (n - k) (Value.int .i64 0))[k]? = some (.int .i64 0) := by
  have hlen : (cellsN (List.range k)).length = k := by simp [cellsN]
  rw [List.getElem?_append_right (by omega), hlen, Nat.sub_self, List.getElem?_replicate, if_pos (by omega)]

set_option maxHeartbeats 400000 in
theorem placesOf_any (a : Option Addr) (n c : Nat) (w : World) (hn : n ≤ 1048576) :
    Calls Tryz.prog 200 #[.slice a n c] w fun e w' => e = .returned (.slice (some ⟨w.heap.size, 0, none⟩) n n) ∧
      w'.ownsRow w.heap.size 3 1 (.slice (some ⟨w.heap.size, 0, none⟩) n n) n (cellsN (List.range n)) ∧ Below w.heap.size w w' := by
  obtain ⟨i0, hi, hz0, hz1, hz2⟩ := info_parts Tryz.infoInt
  have hbb : i0.bytes * n ≤ 281474976710656 := by rw [hz2]; omega
  go_enter Tryz.func200, Tryz.ntmps200
  go_wp2_with (first
    | (at_make; refine wpList_make_full _ rfl _ _ 29 rfl w.heap.size 3 i0 (.int .i64 0) 1 Tryz.underlying29 hi hz0 hz1 .i64 .i64 n n n rfl rfl rfl rfl hbb (by unfold maxLen; omega) (Nat.le_refl _) ?_; intro w1 hown hgrow)
    | go_in)
  have hown0 : w1.ownsRow w.heap.size 3 1 (.slice (some ⟨w.heap.size, 0, none⟩) n n) n (cellsN (List.range 0) ++ List.replicate (n - 0) (.int .i64 0)) := by
    simpa [toList_madeCells_one, Value.cells, cellsN] using hown
  have hb1 : Below w.heap.size w w1 := (Below.refl _ _).grown hgrow (Nat.le_refl _) (by simp)
  clear hown hgrow
  go_loopw [4, 10] (fun _ i wr => ∃ k : Nat, k ≤ n ∧ i = .int .i64 k ∧ wr.ownsRow w.heap.size 3 1 (.slice (some ⟨w.heap.size, 0, none⟩) n n) n (cellsN (List.range k) ++ List.replicate (n - k) (.int .i64 0)) ∧ Below w.heap.size w wr) (fun _ i _ => n - (intOf i).toNat)
  case atStart => exact ⟨0, Nat.zero_le _, rfl, hown0, hb1⟩
  case round =>
    obtain ⟨k, hk, rfl, hown, hbel⟩ := hrel
    by_cases hlt : k < n
    · have hc2 : wr.cell? ⟨w.heap.size, k, none⟩ = some (.int .i64 0) := (hown.cellAt k (by omega)).trans (places_at n k hlt)
      have hf2 : wr.frozen? ⟨w.heap.size, k, none⟩ = false := hown.frozenAt k
      have hst := hown.stored k (.int .i64 (k : Int))
      rw [places_step n k hlt] at hst
      have hst1 := hst.1
      have hbs : Below w.heap.size w (wr.setCell ⟨w.heap.size, k, none⟩ (.int .i64 (k : Int))) := hbel.setCell (Nat.le_refl _) _
      clear hst hown hbel hown0 hb1
      go_wp2
      go_roundw
      case rel => exact ⟨k + 1, by omega, by go_num, hst1, hbs⟩
      case measure => simp [intOf]; omega
    · have hkn : k = n := by omega
      subst hkn
      go_wp2
      go_ret
      refine ⟨rfl, ?_, hbel⟩
      simpa using hown
end Go.Proofs.YtphdeojiehigpaaGreatDoor

/- The program's SortDown: the places, sorted by their keys. -/
namespace Go.Proofs.YtphdeojiehigpaaGreatDoor
open Go.RowKit

theorem stableFuncDown_any (base g n cap bx : Nat) (ak : Option Addr) (ck : Nat) (keys : List Int) (w : World) (hown : w.ownsRow base 3 1 (.slice (some ⟨g, 0, none⟩) n cap) n (cellsN (List.range n))) (hk : Keys w bx ak n ck keys) (hbx : bx ≠ g) (hak : ∀ x, ak = some x → x.block ≠ g) (hn : n ≤ 1048576) :
    Calls Tryz.prog 201 #[.slice (some ⟨g, 0, none⟩) n cap, .func (Fn.func 202) #[] #[.pointer (some ⟨bx, 0, none⟩)]] w fun e w' =>
      e = .returned (.tuple #[]) ∧ w'.ownsRow base 3 1 (.slice (some ⟨g, 0, none⟩) n cap) n (cellsN (sortP keys true (List.range n))) ∧ w.grownBy w' (some g) := by
  have HK := hide hk
  have HO := hide hown
  clear hk hown
  go_enter Tryz.func201, Tryz.ntmps201
  go_wp2_with fail
  refine (stableDown_any base g n cap bx ak ck keys w HO.out HK.out hbx hak hn).mono ?_
  rintro e w1 ⟨rfl, ho, hg⟩
  go_wp2
  go_end0
  exact ⟨rfl, ho, hg⟩

set_option maxHeartbeats 800000 in
theorem implSortDown_any (ak : Option Addr) (n ck : Nat) (keys : List Int) (w : World) (hr : Rd w ak n keys) (hlt : ∀ x, ak = some x → x.block < w.heap.size) (hn : n ≤ 1048576) :
    Calls Tryz.prog 196 #[.slice ak n ck] w fun e w' => e = .returned (.slice (some ⟨w.heap.size + 1, 0, none⟩) n n) ∧
      w'.ownsRow w.heap.size 3 1 (.slice (some ⟨w.heap.size + 1, 0, none⟩) n n) n (cellsN (sortP keys true (List.range n))) ∧ Below w.heap.size w w' := by
  have hmf : ∀ (fn : Fn) (first cap : Array Value) (w : World), (Instr.makeFunc fn first cap).run Tryz.prog w = .ok (.func fn first cap) w := fun _ _ _ _ => rfl
  have hb0 : Below w.heap.size w (w.alloc (.cells #[.slice ak n ck] 29)) := (Below.refl _ _).alloc (Nat.le_refl _) _
  have HR := hide (hr.mono hb0)
  have HB0 := hide hb0
  have HLT := hide hlt
  clear hr hb0 hlt
  go_enter Tryz.func196, Tryz.ntmps196
  go_wp2_with fail
  refine (placesOf_any ak n ck _ hn).mono ?_
  rintro e w1 ⟨rfl, ho1, hb1⟩
  have hsz : (w.alloc (.cells #[.slice ak n ck] 29)).heap.size = w.heap.size + 1 := by simp
  rw [hsz] at ho1
  have hcell : w1.cell? ⟨w.heap.size, 0, none⟩ = some (.slice ak n ck) := (hb1.cell (by simp)).trans (by simp [go_sem])
  have HK : Hid (Keys w1 w.heap.size ak n ck keys) := ⟨hcell, HR.out.mono hb1⟩
  have HO := hide ho1
  have hb01 := HB0.out.trans (hb1.mono HB0.out.size)
  have HB1 := hide hb01
  rw [hsz]
  clear ho1 hb1 hb01 hcell hsz
  go_wp2_with fail
  refine (stableFuncDown_any _ (w.heap.size + 1) n n w.heap.size ak ck keys w1 HO.out HK.out (by omega) ?_ hn).mono ?_
  · intro x hx
    have := HLT.out x hx
    omega
  rintro e w2 ⟨rfl, ho2, hg2⟩
  have hb2 : Below w.heap.size w w2 := HB1.out.grown hg2 HB1.out.size (by intro k hk; cases hk; omega)
  have ho3 : w2.ownsRow w.heap.size 3 1 (.slice (some ⟨w.heap.size + 1, 0, none⟩) n n) n (cellsN (sortP keys true (List.range n))) := own_less ho2 (by omega)
  have HO3 := hide ho3
  clear ho2 hg2 ho3
  go_wp2
  go_ret
  exact ⟨rfl, HO3.out, hb2⟩
end Go.Proofs.YtphdeojiehigpaaGreatDoor
