/- Plain facts on a row of places that is sorted block by block. -/
import Derived.Test.YtcblpoeeembniaaSortPlain
namespace Go.Proofs.Ytcblpoeeembniaa

def seg (D : List Nat) (x y : Nat) : List Nat := (D.drop x).take (y - x)
/-- The piece from x to y is sorted, and holds just the places from x to y. -/
def Srt (keys : List Int) (dn : Bool) (D : List Nat) (x y : Nat) : Prop := (seg D x y).Pairwise (bef keys dn) ∧ (seg D x y).Perm (List.range' x (y - x))
/-- Sorted in blocks of bs. -/
def Blks (keys : List Int) (dn : Bool) (n bs : Nat) (D : List Nat) : Prop := D.length = n ∧ ∀ x, bs ∣ x → x < n → Srt keys dn D x (min (x + bs) n)

theorem seg_len (D : List Nat) (x y : Nat) (h : x ≤ y) (hy : y ≤ D.length) : (seg D x y).length = y - x := by
 unfold seg; rw [List.length_take, List.length_drop]; omega
theorem cut3 (D : List Nat) (x y : Nat) (h : x ≤ y) : D = D.take x ++ seg D x y ++ D.drop y := by
 have e : D.drop y = (D.drop x).drop (y - x) := by rw [List.drop_drop]; congr 1; omega
 unfold seg
 rw [e, List.append_assoc, List.take_append_drop, List.take_append_drop]
theorem seg_split (D : List Nat) (x y z : Nat) (h : x ≤ y) (h' : y ≤ z) : seg D x z = seg D x y ++ seg D y z := by
 unfold seg
 have e : D.drop y = (D.drop x).drop (y - x) := by rw [List.drop_drop]; congr 1; omega
 have e2 : z - x = (y - x) + (z - y) := by omega
 rw [e, e2, List.take_add]
theorem cut4 (D : List Nat) (x y z : Nat) (h : x ≤ y) (h' : y ≤ z) : D = D.take x ++ seg D x y ++ seg D y z ++ D.drop z := by
 rw [List.append_assoc (D.take x), ← seg_split D x y z h h']
 exact cut3 D x z (by omega)

/-- The piece from x to y put anew. -/
def put (D : List Nat) (x y : Nat) (M : List Nat) : List Nat := D.take x ++ M ++ D.drop y
theorem put_len (D : List Nat) (x y : Nat) (M : List Nat) (h : x ≤ y) (hy : y ≤ D.length) (hM : M.length = y - x) : (put D x y M).length = D.length := by
 unfold put; simp; omega
theorem put_seg (D : List Nat) (x y : Nat) (M : List Nat) (h : x ≤ y) (hy : y ≤ D.length) (hM : M.length = y - x) : seg (put D x y M) x y = M := by
 unfold seg put
 have hx : (D.take x).length = x := by rw [List.length_take]; omega
 rw [List.append_assoc, List.drop_append_of_le_length (by omega), List.drop_of_length_le (by omega), List.nil_append, List.take_append_of_le_length (by omega), List.take_of_length_le (by omega)]
theorem put_left (D : List Nat) (x y : Nat) (M : List Nat) (u v : Nat) (hy : x ≤ D.length) (huv : u ≤ v) (hv : v ≤ x) : seg (put D x y M) u v = seg D u v := by
 unfold seg put
 have hx : (D.take x).length = x := by rw [List.length_take]; omega
 rw [List.append_assoc, List.drop_append_of_le_length (by omega), List.take_append_of_le_length (by rw [List.length_drop]; omega), List.drop_take, List.take_take]
 congr 1; omega
theorem put_drop (D : List Nat) (x y : Nat) (M : List Nat) (h : x ≤ y) (hy : y ≤ D.length) (hM : M.length = y - x) (u : Nat) (hu : y ≤ u) : (put D x y M).drop u = D.drop u := by
 unfold put
 have hx : (D.take x ++ M).length = y := by rw [List.length_append, List.length_take]; omega
 rw [List.drop_append, List.drop_of_length_le (by omega), List.nil_append, List.drop_drop]
 congr 1; omega
theorem put_right (D : List Nat) (x y : Nat) (M : List Nat) (h : x ≤ y) (hy : y ≤ D.length) (hM : M.length = y - x) (u v : Nat) (hu : y ≤ u) : seg (put D x y M) u v = seg D u v := by
 unfold seg
 rw [put_drop D x y M h hy hM u hu]

theorem srt_put {keys : List Int} {dn : Bool} {D M : List Nat} {x y : Nat} (h : x ≤ y) (hy : y ≤ D.length) (hp : M.Perm (List.range' x (y - x))) (hs : M.Pairwise (bef keys dn)) : Srt keys dn (put D x y M) x y := by
 have hM : M.length = y - x := by rw [hp.length_eq, List.length_range']
 unfold Srt
 rw [put_seg D x y M h hy hM]
 exact ⟨hs, hp⟩

theorem dvd_step {d x a : Nat} (h1 : d ∣ x) (h2 : d ∣ a) (h : x < a) : x + d ≤ a := by
 obtain ⟨k, rfl⟩ := h1
 obtain ⟨m, rfl⟩ := h2
 have : k < m := Nat.lt_of_mul_lt_mul_left h
 have : d * (k + 1) ≤ d * m := Nat.mul_le_mul_left d this
 rw [Nat.mul_add, Nat.mul_one] at this
 exact this

theorem range_lt (x k : Nat) : (List.range' x k).Pairwise (· < ·) := List.pairwise_lt_range'
theorem mem_rng {x k p : Nat} (h : p ∈ List.range' x k) : x ≤ p ∧ p < x + k := by
 have := List.mem_range'_1.1 h; omega

/-- Two sorted pieces side by side, merged. -/
theorem merged {keys : List Int} {dn : Bool} {D M : List Nat} {x y z : Nat} (hxy : x ≤ y) (hyz : y ≤ z) (h1 : Srt keys dn D x y) (h2 : Srt keys dn D y z) (hp : M.Perm (seg D x y ++ seg D y z)) : M.Perm (List.range' x (z - x)) := by
 refine hp.trans ((h1.2.append h2.2).trans ?_)
 have e : z - x = (y - x) + (z - y) := by omega
 rw [e, ← List.range'_append_1]
 have e2 : x + (y - x) = y := by omega
 rw [e2]
theorem srt_mem {keys : List Int} {dn : Bool} {D : List Nat} {x y p : Nat} (h : Srt keys dn D x y) (hp : p ∈ seg D x y) : x ≤ p ∧ p < x + (y - x) := mem_rng (h.2.mem_iff.1 hp)

/-- A row that is sorted in one block. -/
theorem whole {keys : List Int} {dn : Bool} {D : List Nat} {n : Nat} (hl : D.length = n) (h : Srt keys dn D 0 n) : D = sortP keys dn (List.range n) := by
 have e : seg D 0 n = D := by unfold seg; rw [List.drop_zero, Nat.sub_zero, List.take_of_length_le (by omega)]
 unfold Srt at h
 rw [e, Nat.sub_zero, ← List.range_eq_range'] at h
 exact sortP_eq List.nodup_range h.2 h.1

/-- How far the insertion by blocks of 20 has come. -/
def InvA (keys : List Int) (dn : Bool) (n x : Nat) (D : List Nat) : Prop := D.length = n ∧ 20 ∣ x ∧ x ≤ n ∧ (∀ y, 20 ∣ y → y < x → Srt keys dn D y (y + 20)) ∧ D.drop x = List.range' x (n - x)
theorem invA_start (keys : List Int) (dn : Bool) (n : Nat) : InvA keys dn n 0 (List.range n) :=
 ⟨List.length_range, ⟨0, rfl⟩, Nat.zero_le _, fun _ _ h => absurd h (Nat.not_lt_zero _), by rw [List.drop_zero, Nat.sub_zero, List.range_eq_range']⟩
theorem invA_seg {keys : List Int} {dn : Bool} {n x z : Nat} {D : List Nat} (h : InvA keys dn n x D) (hz : z ≤ n) : seg D x z = List.range' x (z - x) := by
 unfold seg
 rw [h.2.2.2.2]
 by_cases e : x ≤ z
 · have e2 : n - x = (z - x) + (n - z) := by omega
   rw [e2, ← List.range'_append_1, List.take_append_of_le_length (by rw [List.length_range']; exact Nat.le_refl _), List.take_of_length_le (by rw [List.length_range']; exact Nat.le_refl _)]
 · have e3 : z - x = 0 := by omega
   rw [e3]; simp
theorem srt_keep_left {keys : List Int} {dn : Bool} {D M : List Nat} {x y u v : Nat} (hx : x ≤ D.length) (huv : u ≤ v) (hv : v ≤ x) (h : Srt keys dn D u v) : Srt keys dn (put D x y M) u v := by
 unfold Srt at *
 rw [put_left D x y M u v hx huv hv]; exact h
theorem srt_keep_right {keys : List Int} {dn : Bool} {D M : List Nat} {x y u v : Nat} (hxy : x ≤ y) (hy : y ≤ D.length) (hM : M.length = y - x) (hu : y ≤ u) (h : Srt keys dn D u v) : Srt keys dn (put D x y M) u v := by
 unfold Srt at *
 rw [put_right D x y M hxy hy hM u v hu]; exact h
theorem invA_step {keys : List Int} {dn : Bool} {n x : Nat} {D M : List Nat} (h : InvA keys dn n x D) (hx : x + 20 ≤ n) (hp : M.Perm (List.range' x (x + 20 - x))) (hs : M.Pairwise (bef keys dn)) : InvA keys dn n (x + 20) (put D x (x + 20) M) := by
 obtain ⟨h1, h2, h3, h4, h5⟩ := h
 have hM : M.length = x + 20 - x := by rw [hp.length_eq, List.length_range']
 refine ⟨by rw [put_len D x _ M (by omega) (by omega) hM]; exact h1, Nat.dvd_add h2 (Nat.dvd_refl _), hx, ?_, ?_⟩
 · intro y hy hlt
   by_cases e : y = x
   · subst e; exact srt_put (by omega) (by omega) hp hs
   · have hyx : y < x := by
      apply Nat.lt_of_not_le
      intro hle
      have := dvd_step h2 hy (by omega)
      omega
     exact srt_keep_left (by omega) (by omega) (dvd_step hy h2 hyx) (h4 y hy hyx)
 · rw [put_drop D x _ M (by omega) (by omega) hM (x + 20) (Nat.le_refl _)]
   have e : D.drop (x + 20) = (D.drop x).drop 20 := by rw [List.drop_drop]
   rw [e, h5, List.drop_range']
   congr 1 <;> omega
theorem invA_end {keys : List Int} {dn : Bool} {n x : Nat} {D M : List Nat} (h : InvA keys dn n x D) (hx : n < x + 20) (hp : M.Perm (List.range' x (n - x))) (hs : M.Pairwise (bef keys dn)) : Blks keys dn n 20 (put D x n M) := by
 obtain ⟨h1, h2, h3, h4, h5⟩ := h
 have hM : M.length = n - x := by rw [hp.length_eq, List.length_range']
 refine ⟨by rw [put_len D x _ M (by omega) (by omega) hM]; exact h1, ?_⟩
 intro y hy hlt
 by_cases e : y < x
 · have := dvd_step hy h2 e
   rw [Nat.min_eq_left (by omega)]
   exact srt_keep_left (by omega) (by omega) this (h4 y hy e)
 · have e2 : y = x := by
    apply Nat.le_antisymm _ (by omega)
    apply Nat.le_of_not_lt
    intro hlt2
    have := dvd_step h2 hy hlt2
    omega
   subst e2
   rw [Nat.min_eq_right (by omega)]
   exact srt_put h3 (by omega) hp hs

/-- How far a round of merging blocks of bs has come. -/
def InvB (keys : List Int) (dn : Bool) (n bs x : Nat) (D : List Nat) : Prop := D.length = n ∧ 2 * bs ∣ x ∧ x ≤ n ∧ (∀ y, 2 * bs ∣ y → y < x → Srt keys dn D y (y + 2 * bs)) ∧ (∀ y, bs ∣ y → x ≤ y → y < n → Srt keys dn D y (min (y + bs) n))
theorem dvd_half {bs x : Nat} (h : 2 * bs ∣ x) : bs ∣ x := Nat.dvd_trans ⟨2, Nat.mul_comm 2 bs⟩ h
theorem invB_start {keys : List Int} {dn : Bool} {n bs : Nat} {D : List Nat} (h : Blks keys dn n bs D) : InvB keys dn n bs 0 D :=
 ⟨h.1, ⟨0, rfl⟩, Nat.zero_le _, fun _ _ h => absurd h (Nat.not_lt_zero _), fun y hy _ hn => h.2 y hy hn⟩
theorem invB_one {keys : List Int} {dn : Bool} {n bs x : Nat} {D : List Nat} (h : InvB keys dn n bs x D) (hb : 0 < bs) (hx : x + bs ≤ n) : Srt keys dn D x (x + bs) := by
 have := h.2.2.2.2 x (dvd_half h.2.1) (Nat.le_refl _) (by omega)
 rwa [Nat.min_eq_left (by omega)] at this
theorem invB_two {keys : List Int} {dn : Bool} {n bs x z : Nat} {D : List Nat} (h : InvB keys dn n bs x D) (hx : x + bs < n) (hz : z = min (x + bs + bs) n) : Srt keys dn D (x + bs) z := by
 rw [hz]
 exact h.2.2.2.2 (x + bs) (Nat.dvd_add (dvd_half h.2.1) (Nat.dvd_refl _)) (by omega) hx
theorem invB_step {keys : List Int} {dn : Bool} {n bs x : Nat} {D M : List Nat} (h : InvB keys dn n bs x D) (hb : 0 < bs) (hx : x + 2 * bs ≤ n) (hp : M.Perm (List.range' x (x + 2 * bs - x))) (hs : M.Pairwise (bef keys dn)) : InvB keys dn n bs (x + 2 * bs) (put D x (x + 2 * bs) M) := by
 obtain ⟨h1, h2, h3, h4, h5⟩ := h
 have hM : M.length = x + 2 * bs - x := by rw [hp.length_eq, List.length_range']
 refine ⟨by rw [put_len D x _ M (by omega) (by omega) hM]; exact h1, Nat.dvd_add h2 (Nat.dvd_refl _), hx, ?_, ?_⟩
 · intro y hy hlt
   by_cases e : y = x
   · subst e; exact srt_put (by omega) (by omega) hp hs
   · have hyx : y < x := by
      apply Nat.lt_of_not_le
      intro hle
      have := dvd_step h2 hy (by omega)
      omega
     exact srt_keep_left (by omega) (by omega) (dvd_step hy h2 hyx) (h4 y hy hyx)
 · intro y hy hle hlt
   exact srt_keep_right (by omega) (by omega) hM hle (h5 y hy (by omega) hlt)
theorem invB_merge {keys : List Int} {dn : Bool} {n bs x : Nat} {D M : List Nat} (h : InvB keys dn n bs x D) (hx : n < x + 2 * bs) (hp : M.Perm (List.range' x (n - x))) (hs : M.Pairwise (bef keys dn)) : Blks keys dn n (2 * bs) (put D x n M) := by
 obtain ⟨h1, h2, h3, h4, h5⟩ := h
 have hM : M.length = n - x := by rw [hp.length_eq, List.length_range']
 refine ⟨by rw [put_len D x _ M (by omega) (by omega) hM]; exact h1, ?_⟩
 intro y hy hlt
 by_cases e : y < x
 · have := dvd_step hy h2 e
   rw [Nat.min_eq_left (by omega)]
   exact srt_keep_left (by omega) (by omega) this (h4 y hy e)
 · have e2 : y = x := by
    apply Nat.le_antisymm _ (by omega)
    apply Nat.le_of_not_lt
    intro hlt2
    have := dvd_step h2 hy hlt2
    omega
   subst e2
   rw [Nat.min_eq_right (by omega)]
   exact srt_put h3 (by omega) hp hs
theorem invB_end {keys : List Int} {dn : Bool} {n bs x : Nat} {D : List Nat} (h : InvB keys dn n bs x D) (hx : n < x + 2 * bs) (hx2 : n ≤ x + bs) : Blks keys dn n (2 * bs) D := by
 obtain ⟨h1, h2, h3, h4, h5⟩ := h
 refine ⟨h1, ?_⟩
 intro y hy hlt
 by_cases e : y < x
 · have := dvd_step hy h2 e
   rw [Nat.min_eq_left (by omega)]
   exact h4 y hy e
 · have e2 : y = x := by
    apply Nat.le_antisymm _ (by omega)
    apply Nat.le_of_not_lt
    intro hlt2
    have := dvd_step h2 hy hlt2
    omega
   subst e2
   have := h5 y (dvd_half h2) (Nat.le_refl _) hlt
   rw [Nat.min_eq_right (by omega)] at this ⊢
   exact this
theorem blk_end {keys : List Int} {dn : Bool} {n bs : Nat} {D : List Nat} (h : Blks keys dn n bs D) (hb : n ≤ bs) : D = sortP keys dn (List.range n) := by
 by_cases hn : n = 0
 · subst hn
   have := List.length_eq_zero_iff.1 h.1
   subst this
   exact sortP_eq List.nodup_range (List.Perm.refl _) List.Pairwise.nil
 · have := h.2 0 ⟨0, rfl⟩ (by omega)
   rw [Nat.zero_add, Nat.min_eq_right hb] at this
   exact whole h.1 this
end Go.Proofs.Ytcblpoeeembniaa
