/- A row of places in memory, and small facts on lists that the sort's walks lean on. -/
import Derived.Test.YtcblpoeeembniaaSortCmp
import Derived.Test.YtcblpoeeembniaaSortPlain
namespace Go.Proofs.Ytcblpoeeembniaa
open Go.RowKit

/-- The places as the cells hold them. -/
def cellsN (l : List Nat) : List Value := l.map fun (p : Nat) => Value.int .i64 (p : Int)

theorem cellsN_at (l : List Nat) (i : Nat) (h : i < l.length) : (cellsN l)[i]? = some (.int .i64 (l[i] : Int)) := by simp [cellsN, h]
theorem take1_sorted (keys : List Int) (dn : Bool) (M : List Nat) : (M.take 1).Pairwise (bef keys dn) := by
 cases M with
 | nil => simp
 | cons x r => simp
theorem cut_one (P M Q : List Nat) (t : Nat) : P ++ M.take t ++ (M.drop t ++ Q) = P ++ M ++ Q := by
 rw [List.append_assoc, ← List.append_assoc (M.take t), List.take_append_drop, List.append_assoc]
theorem take_lt {M : List Nat} (hM : M.Pairwise (· < ·)) (t : Nat) (h : t < M.length) : ∀ y ∈ M.take t, y < M[t] := by
 intro y hy
 obtain ⟨i, hi, rfl⟩ := List.mem_take_iff_getElem.1 hy
 exact List.pairwise_iff_getElem.1 hM i t (by omega) h (by omega)

theorem Keys.grown {w w' : World} {g bx : Nat} {ak : Option Addr} {nk ck : Nat} {keys : List Int} (h : Keys w bx ak nk ck keys) (hg : w.grownBy w' (some g)) (hbx : bx ≠ g) (hak : ∀ x, ak = some x → x.block ≠ g) : Keys w' bx ak nk ck keys :=
 ⟨hg.cell h.1 (by simpa using hbx), h.2.grown hg hak⟩

theorem cmp_lt_up (keys : List Int) (p q : Nat) : (cmpI (keys.getD p 0) (keys.getD q 0) < 0) ↔ lts keys false p q = true := by
 unfold cmpI lts key; simp; split <;> (try split) <;> omega
theorem cmp_lt_down (keys : List Int) (p q : Nat) : (cmpI (keys.getD q 0) (keys.getD p 0) < 0) ↔ lts keys true p q = true := by
 unfold cmpI lts key; simp; split <;> (try split) <;> omega

theorem own_at {w : World} {base g n cap : Nat} {l : List Nat} (h : w.ownsRow base 3 1 (.slice (some ⟨g, 0, none⟩) n cap) n (cellsN l)) (i : Nat) (hi : i < l.length) : w.cell? ⟨g, i, none⟩ = some (.int .i64 (l[i] : Int)) := by
 have hl : l.length = n := by have := h.1; simpa [cellsN] using this
 rw [h.cellAt i (by omega), cellsN_at l i hi]
theorem own_put {w : World} {base g n cap : Nat} {l : List Nat} (h : w.ownsRow base 3 1 (.slice (some ⟨g, 0, none⟩) n cap) n (cellsN l)) (i p : Nat) : (w.setCell ⟨g, i, none⟩ (.int .i64 (p : Int))).ownsRow base 3 1 (.slice (some ⟨g, 0, none⟩) n cap) n (cellsN (l.set i p)) := by
 have := (h.stored i (.int .i64 (p : Int))).1
 have e : (cellsN l).set i (.int .i64 (p : Int)) = cellsN (l.set i p) := by simp [cellsN, List.map_set]
 rw [e] at this
 exact this
theorem own_cap {w : World} {base e size n g cap : Nat} {xs : List Value} (h : w.ownsRow base e size (.slice (some ⟨g, 0, none⟩) n cap) n xs) : n ≤ cap ∧ cap ≤ 9223372036854775807 := by
 rcases h.2 with ⟨h', _⟩ | ⟨g', cap', cur, h1, h2, h3, h4, h5, _⟩
 · cases h'
 · cases h1
   exact ⟨h4, h5⟩
theorem own_less {w : World} {base base' e size n : Nat} {v : Value} {xs : List Value} (h : w.ownsRow base e size v n xs) (hb : base' ≤ base) : w.ownsRow base' e size v n xs := by
 refine ⟨h.1, ?_⟩
 rcases h.2 with h' | ⟨g, cap, cur, h1, h2, h3⟩
 · exact Or.inl h'
 · exact Or.inr ⟨g, cap, cur, h1, Nat.le_trans hb h2, h3⟩
theorem own_drew {w : World} {base e size n : Nat} {v : Value} {xs : List Value} (h : w.ownsRow base e size v n xs) (m : Nat) : (w.drewN m).ownsRow base e size v n xs := h
theorem gb_drew {w w' : World} {row : Option Nat} (h : w.grownBy w' row) (m : Nat) : w.grownBy (w'.drewN m) row := ⟨h.os, h.tape, h.output, h.size, h.block⟩

/-- Two neighbours change their places. -/
theorem swap_mid (P S R : List Nat) (y x : Nat) (i : Nat) (h : i = P.length + S.length) : ((P ++ (S ++ [y]) ++ x :: R).set (i + 1) y).set i x = P ++ S ++ x :: (y :: R) := by
 subst h
 have e1 : P ++ (S ++ [y]) ++ x :: R = (P ++ S) ++ (y :: x :: R) := by simp
 rw [e1, List.set_append_right _ _ (by rw [List.length_append]; omega), List.set_append_right _ _ (by rw [List.length_append]; omega)]
 simp
theorem nil_or_last (S : List Nat) : S = [] ∨ ∃ S' y, S = S' ++ [y] := by
 rcases List.eq_nil_or_concat S with h | ⟨S', y, h⟩
 · exact Or.inl h
 · exact Or.inr ⟨S', y, by rw [h, List.concat_eq_append]⟩
theorem ins_perm (S R : List Nat) (x : Nat) : (S ++ x :: R).Perm (S ++ R ++ [x]) := by
 rw [List.append_assoc]
 exact (List.perm_append_comm (l₁ := [x]) (l₂ := R)).append_left S
theorem mid_x (P S R : List Nat) (x y : Nat) : (P ++ (S ++ [y]) ++ x :: R)[P.length + S.length + 1]? = some x := by
 rw [List.getElem?_append_right (by simp; omega)]
 have e : P.length + S.length + 1 - (P ++ (S ++ [y])).length = 0 := by simp; omega
 rw [e]; rfl
theorem mid_y (P S R : List Nat) (x y : Nat) : (P ++ (S ++ [y]) ++ x :: R)[P.length + S.length]? = some y := by
 have e1 : P ++ (S ++ [y]) ++ x :: R = (P ++ S) ++ (y :: x :: R) := by simp
 rw [e1, List.getElem?_append_right (by simp)]
 have e : P.length + S.length - (P ++ S).length = 0 := by simp
 rw [e]; rfl
theorem own_get {w : World} {base g n cap : Nat} {l : List Nat} (h : w.ownsRow base 3 1 (.slice (some ⟨g, 0, none⟩) n cap) n (cellsN l)) (i p : Nat) (hp : l[i]? = some p) : w.cell? ⟨g, i, none⟩ = some (.int .i64 (p : Int)) := by
 obtain ⟨hi, rfl⟩ := List.getElem?_eq_some_iff.1 hp
 exact own_at h i hi

theorem row_step (P R T : List Nat) (x t : Nat) (h : t < R.length) : P ++ R.take t ++ R[t] :: x :: T = P ++ R.take (t + 1) ++ x :: T := by
 rw [List.take_succ_eq_append_getElem h]
 simp only [List.append_assoc, List.cons_append, List.nil_append]
theorem at_L (P L S Q : List Nat) (q : Nat) (h : q < L.length) : (P ++ L ++ S ++ Q)[P.length + q]? = some L[q] := by
 have e : P ++ L ++ S ++ Q = P ++ (L ++ (S ++ Q)) := by simp
 rw [e, List.getElem?_append_right (by omega)]
 have e2 : P.length + q - P.length = q := by omega
 rw [e2, List.getElem?_append_left h, List.getElem?_eq_getElem h]
theorem at_y (P L Q : List Nat) (y : Nat) : (P ++ L ++ [y] ++ Q)[P.length + L.length]? = some y := by
 have e : P ++ L ++ [y] ++ Q = (P ++ L) ++ y :: Q := by simp
 rw [e, List.getElem?_append_right (by simp)]
 have e2 : P.length + L.length - (P ++ L).length = 0 := by simp
 rw [e2]; rfl
theorem at_RR (P L R Q : List Nat) (q : Nat) (h : q < R.length) : (P ++ L ++ R ++ Q)[P.length + L.length + q]? = some R[q] := by
 have e : P ++ L ++ R ++ Q = (P ++ L) ++ (R ++ Q) := by simp
 rw [e, List.getElem?_append_right (by rw [List.length_append]; omega)]
 have e2 : P.length + L.length + q - (P ++ L).length = q := by rw [List.length_append]; omega
 rw [e2, List.getElem?_append_left h, List.getElem?_eq_getElem h]
theorem at_x (P R Q : List Nat) (x : Nat) : (P ++ [x] ++ R ++ Q)[P.length]? = some x := by
 have e : P ++ [x] ++ R ++ Q = P ++ x :: (R ++ Q) := by simp
 rw [e, List.getElem?_append_right (Nat.le_refl _), Nat.sub_self]; rfl
theorem at_R (P R Q : List Nat) (x q : Nat) (h : q < R.length) : (P ++ [x] ++ R ++ Q)[P.length + 1 + q]? = some R[q] := by
 have e : P ++ [x] ++ R ++ Q = (P ++ [x]) ++ (R ++ Q) := by simp
 rw [e, List.getElem?_append_right (by rw [List.length_append, List.length_singleton]; omega)]
 have e2 : P.length + 1 + q - (P ++ [x]).length = q := by rw [List.length_append, List.length_singleton]; omega
 rw [e2, List.getElem?_append_left h, List.getElem?_eq_getElem h]
theorem at_1 (L M R : List Nat) (x z : Nat) (i : Nat) (h : i = L.length) : (L ++ x :: (M ++ z :: R))[i]? = some x := by
 subst h; rw [List.getElem?_append_right (Nat.le_refl _), Nat.sub_self]; rfl
theorem at_2 (L M R : List Nat) (x z : Nat) (j : Nat) (h : j = L.length + 1 + M.length) : (L ++ x :: (M ++ z :: R))[j]? = some z := by
 have e : L ++ x :: (M ++ z :: R) = (L ++ x :: M) ++ z :: R := by simp
 rw [e, List.getElem?_append_right (by simp; omega)]
 have e2 : j - (L ++ x :: M).length = 0 := by simp; omega
 rw [e2]; rfl
theorem swap2 (L M R : List Nat) (x z : Nat) (i j : Nat) (hi : i = L.length) (hj : j = L.length + 1 + M.length) : ((L ++ x :: (M ++ z :: R)).set i z).set j x = L ++ z :: (M ++ x :: R) := by
 subst hi
 rw [List.set_append_right _ _ (Nat.le_refl _), Nat.sub_self, List.set_cons_zero]
 have e : L ++ z :: (M ++ z :: R) = (L ++ z :: M) ++ z :: R := by simp
 rw [e, List.set_append_right _ _ (by simp; omega)]
 have e2 : j - (L ++ z :: M).length = 0 := by simp; omega
 rw [e2, List.set_cons_zero]
 simp

/-- The places as numbers. -/
def ints (l : List Nat) : List Int := l.map fun (p : Nat) => (p : Int)
theorem cells_ints (l : List Nat) : (ints l).map (Value.int .i64) = cellsN l := by simp [ints, cellsN]
theorem Rd.of_cells {w : World} {base g n cap : Nat} {l : List Nat} (h : w.ownsRow base 3 1 (.slice (some ⟨g, 0, none⟩) n cap) n (cellsN l)) : Rd w (some ⟨g, 0, none⟩) n (ints l) := by
 refine Rd.of_owns (base := base) (cap := cap) ?_
 rw [cells_ints]; exact h
theorem ints_at (l : List Nat) (i : Nat) (h : i < l.length) : (ints l).getD i 0 = (l[i] : Int) := by simp [ints, h]
theorem Rd.cell {w : World} {b off n : Nat} {l : List Nat} (h : Rd w (some ⟨b, off, none⟩) n (ints l)) (i : Nat) (hi : i < n) (hl : i < l.length) : w.cell? ⟨b, off + i, none⟩ = some (.int .i64 (l[i] : Int)) := by
 obtain ⟨b', off', e, hc⟩ := h.2 i hi
 cases e
 rw [hc, ints_at l i hl]
theorem Rd.take {w : World} {b off n : Nat} {l : List Nat} (h : Rd w (some ⟨b, off, none⟩) n (ints l)) (k : Nat) (hk : k ≤ n) : Rd w (some ⟨b, off, none⟩) k (ints (l.take k)) := by
 have hl : l.length = n := by have := h.1; simpa [ints] using this
 refine ⟨by simp [ints]; omega, fun i hi => ⟨b, off, rfl, ?_⟩⟩
 rw [h.cell i (by omega) (by omega), ints_at _ i (by rw [List.length_take]; omega)]
 simp
theorem Rd.drop {w : World} {b off n : Nat} {l : List Nat} (h : Rd w (some ⟨b, off, none⟩) n (ints l)) (k : Nat) (hk : k ≤ n) : Rd w (some ⟨b, off + k, none⟩) (n - k) (ints (l.drop k)) := by
 have hl : l.length = n := by have := h.1; simpa [ints] using this
 refine ⟨by simp [ints]; omega, fun i hi => ⟨b, off + k, rfl, ?_⟩⟩
 rw [ints_at _ i (by rw [List.length_drop]; omega), Nat.add_assoc, h.cell (k + i) (by omega) (by omega)]
 simp

end Go.Proofs.Ytcblpoeeembniaa
