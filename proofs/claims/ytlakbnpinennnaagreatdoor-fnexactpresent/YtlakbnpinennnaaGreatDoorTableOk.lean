/- impl.TableOk: an array of flags, compared as a whole; spec.TableOk. -/
import Derived.Test.YtlakbnpinennnaaGreatDoorBeside
import Derived.Test.YtlakbnpinennnaaGreatDoorTablePlain
import Derived.Test.YtlakbnpinennnaaGreatDoorVol
import Derived.Deep.RegionWith
import Derived.Deep.DeepMust
namespace Go.Proofs.YtlakbnpinennnaaGreatDoor
open Go.RowKit
set_option linter.unusedVariables false

def flc (F : List Bool) : List Value := F.map Value.bool
theorem flc_len (F : List Bool) : (flc F).length = F.length := by simp [flc]
theorem flc_at (F : List Bool) (i : Nat) (h : i < F.length) : (flc F)[i]? = some (.bool (fl F i)) := by
  simp [flc, fl, h]
theorem flc_set (F : List Bool) (i : Nat) (v : Bool) : (flc F).set i (.bool v) = flc (F.set i v) := by
  simp [flc, List.map_set]
theorem Blk.flag {w : World} {g : Nat} {F : List Bool} (h : Blk w g (flc F)) (i : Nat) (hi : i < F.length) : w.cell? ⟨g, i, none⟩ = some (.bool (fl F i)) ∧ w.frozen? ⟨g, i, none⟩ = false := by
  have := h i (by rw [flc_len]; exact hi)
  rw [flc_at F i hi] at this
  exact this
theorem sixteen (F : List Bool) (h : F.length = 16) : ∃ b0 b1 b2 b3 b4 b5 b6 b7 b8 b9 b10 b11 b12 b13 b14 b15, F = [b0, b1, b2, b3, b4, b5, b6, b7, b8, b9, b10, b11, b12, b13, b14, b15] := by
  match F, h with
  | [b0, b1, b2, b3, b4, b5, b6, b7, b8, b9, b10, b11, b12, b13, b14, b15], _ => exact ⟨b0, b1, b2, b3, b4, b5, b6, b7, b8, b9, b10, b11, b12, b13, b14, b15, rfl⟩

/-- Equality of arrays. -/
theorem run_equal_array {P : Program} {w : World} {d n k : Nat} {t e : TypeId} {xs ys : Array Value} {a b : Nat → Value} {r : Nat → Bool} (ht : P.underlying t = some (.array n e)) (hk : ∀ w, (sizeOf e).run P w = .ok k w)
    (ha : ∀ i, i < n → (part e xs (i * k)).run P w = .ok (a i) w) (hb : ∀ i, i < n → (part e ys (i * k)).run P w = .ok (b i) w) (hr : ∀ i, i < n → (Op.equalIn d e (a i) (b i)).run P w = .ok (r i) w) :
    (Op.equalIn (d + 1) t (.agg xs) (.agg ys)).run P w = .ok ((List.range n).all r) w := by
  simp only [Op.equalIn, Sem.run_bind, run_underlying ht, Result.andThen_ok, hk, Std.Legacy.Range.forIn_eq_forIn_range', Std.Legacy.Range.size, Nat.sub_zero, Nat.add_one_sub_one, Nat.div_one, List.range_eq_range']
  have hin : ∀ i ∈ List.range' 0 n, i < n := fun i hi => by simpa using hi
  generalize List.range' 0 n = ls at hin
  induction ls with
  | nil => simp
  | cons i ls ih =>
    have hi := hin i (by simp)
    simp only [List.forIn_cons, Sem.run_bind, ha i hi, hb i hi, hr i hi, Result.andThen_ok, List.all_cons]
    cases r i
    · simp
    · simpa using ih (fun j hj => hin j (by simp [hj]))

theorem eq_row (p0 p1 p2 p3 q0 q1 q2 q3 : Bool) (d : Nat) (w : World) : (Op.equalIn (d + 2) 168 (.agg #[.bool p0, .bool p1, .bool p2, .bool p3]) (.agg #[.bool q0, .bool q1, .bool q2, .bool q3])).run Tryz.prog w = .ok ((p0 == q0) && (p1 == q1) && (p2 == q2) && (p3 == q3)) w := by
  have h := run_equal_array (P := Tryz.prog) (w := w) (d := d + 1) (k := 1) (e := 4) (xs := #[.bool p0, .bool p1, .bool p2, .bool p3]) (ys := #[.bool q0, .bool q1, .bool q2, .bool q3]) (a := fun i => .bool (fl [p0, p1, p2, p3] i)) (b := fun i => .bool (fl [q0, q1, q2, q3] i)) (r := fun i => fl [p0, p1, p2, p3] i == fl [q0, q1, q2, q3] i) Tryz.underlying168 (by intro w; simp [go_sem])
    (by intro i hi; match i, hi with | 0, _ => simp [go_sem, fl] | 1, _ => simp [go_sem, fl] | 2, _ => simp [go_sem, fl] | 3, _ => simp [go_sem, fl])
    (by intro i hi; match i, hi with | 0, _ => simp [go_sem, fl] | 1, _ => simp [go_sem, fl] | 2, _ => simp [go_sem, fl] | 3, _ => simp [go_sem, fl]) (by intro i hi; exact run_equalIn_bool' w d _ _ _ Tryz.underlying4)
  rw [h]
  simp [fl, List.range, List.range.loop, Bool.and_assoc]
theorem eq_table (b0 b1 b2 b3 b4 b5 b6 b7 b8 b9 b10 b11 b12 b13 b14 b15 c0 c1 c2 c3 c4 c5 c6 c7 c8 c9 c10 c11 c12 c13 c14 c15 : Bool) (w : World) : (Op.equalIn 10000 170 (.agg #[.bool b0, .bool b1, .bool b2, .bool b3, .bool b4, .bool b5, .bool b6, .bool b7, .bool b8, .bool b9, .bool b10, .bool b11, .bool b12, .bool b13, .bool b14, .bool b15]) (.agg #[.bool c0, .bool c1, .bool c2, .bool c3, .bool c4, .bool c5, .bool c6, .bool c7, .bool c8, .bool c9, .bool c10, .bool c11, .bool c12, .bool c13, .bool c14, .bool c15])).run Tryz.prog w = .ok (sameF [b0, b1, b2, b3, b4, b5, b6, b7, b8, b9, b10, b11, b12, b13, b14, b15] [c0, c1, c2, c3, c4, c5, c6, c7, c8, c9, c10, c11, c12, c13, c14, c15]) w := by
  have h := run_equal_array (P := Tryz.prog) (w := w) (d := 9999) (k := 4) (n := 4) (t := 170) (e := 168) (xs := #[.bool b0, .bool b1, .bool b2, .bool b3, .bool b4, .bool b5, .bool b6, .bool b7, .bool b8, .bool b9, .bool b10, .bool b11, .bool b12, .bool b13, .bool b14, .bool b15]) (ys := #[.bool c0, .bool c1, .bool c2, .bool c3, .bool c4, .bool c5, .bool c6, .bool c7, .bool c8, .bool c9, .bool c10, .bool c11, .bool c12, .bool c13, .bool c14, .bool c15])
    (a := fun i => .agg #[.bool (fl [b0, b1, b2, b3, b4, b5, b6, b7, b8, b9, b10, b11, b12, b13, b14, b15] (i * 4)), .bool (fl [b0, b1, b2, b3, b4, b5, b6, b7, b8, b9, b10, b11, b12, b13, b14, b15] (i * 4 + 1)), .bool (fl [b0, b1, b2, b3, b4, b5, b6, b7, b8, b9, b10, b11, b12, b13, b14, b15] (i * 4 + 2)), .bool (fl [b0, b1, b2, b3, b4, b5, b6, b7, b8, b9, b10, b11, b12, b13, b14, b15] (i * 4 + 3))]) (b := fun i => .agg #[.bool (fl [c0, c1, c2, c3, c4, c5, c6, c7, c8, c9, c10, c11, c12, c13, c14, c15] (i * 4)), .bool (fl [c0, c1, c2, c3, c4, c5, c6, c7, c8, c9, c10, c11, c12, c13, c14, c15] (i * 4 + 1)), .bool (fl [c0, c1, c2, c3, c4, c5, c6, c7, c8, c9, c10, c11, c12, c13, c14, c15] (i * 4 + 2)), .bool (fl [c0, c1, c2, c3, c4, c5, c6, c7, c8, c9, c10, c11, c12, c13, c14, c15] (i * 4 + 3))])
    (r := fun i => (fl [b0, b1, b2, b3, b4, b5, b6, b7, b8, b9, b10, b11, b12, b13, b14, b15] (i * 4) == fl [c0, c1, c2, c3, c4, c5, c6, c7, c8, c9, c10, c11, c12, c13, c14, c15] (i * 4)) && (fl [b0, b1, b2, b3, b4, b5, b6, b7, b8, b9, b10, b11, b12, b13, b14, b15] (i * 4 + 1) == fl [c0, c1, c2, c3, c4, c5, c6, c7, c8, c9, c10, c11, c12, c13, c14, c15] (i * 4 + 1)) && (fl [b0, b1, b2, b3, b4, b5, b6, b7, b8, b9, b10, b11, b12, b13, b14, b15] (i * 4 + 2) == fl [c0, c1, c2, c3, c4, c5, c6, c7, c8, c9, c10, c11, c12, c13, c14, c15] (i * 4 + 2)) && (fl [b0, b1, b2, b3, b4, b5, b6, b7, b8, b9, b10, b11, b12, b13, b14, b15] (i * 4 + 3) == fl [c0, c1, c2, c3, c4, c5, c6, c7, c8, c9, c10, c11, c12, c13, c14, c15] (i * 4 + 3))) Tryz.underlying170 (by intro w; simp [go_sem])
    (by intro i hi; match i, hi with | 0, _ => simp [go_sem, fl] | 1, _ => simp [go_sem, fl] | 2, _ => simp [go_sem, fl] | 3, _ => simp [go_sem, fl])
    (by intro i hi; match i, hi with | 0, _ => simp [go_sem, fl] | 1, _ => simp [go_sem, fl] | 2, _ => simp [go_sem, fl] | 3, _ => simp [go_sem, fl]) (by intro i hi; exact eq_row _ _ _ _ _ _ _ _ 9997 w)
  rw [h]
  simp [sameF, fl, List.range, List.range.loop, Bool.and_assoc]

theorem range_all_step (f : Nat → Bool) (k : Nat) : (List.range (k + 1)).all f = ((List.range k).all f && f k) := by
  rw [List.range_succ, List.all_append]
  simp
theorem range_all_miss (f : Nat → Bool) (n k : Nat) (h : k < n) (hf : f k = false) : (List.range n).all f = false := by
  rw [List.all_eq_false]
  exact ⟨k, List.mem_range.2 h, by simp [hf]⟩
set_option maxHeartbeats 1000000 in
theorem withItself_any (F : List Bool) (hF : F.length = 16) (c : Nat) (hc : c ≤ 4) (w : World) :
    Calls Tryz.prog 142 #[.agg (flc F).toArray, .int .i64 (c : Int)] w fun e w' => e = .returned (.bool (selfB F c)) ∧ Below w.heap.size w w' := by
  have HB : Hid (Below w.heap.size w (w.alloc (.cells (flc F).toArray 170))) := (Below.refl _ _).alloc (Nat.le_refl _) _
  have HK : Hid (Blk (w.alloc (.cells (flc F).toArray 170)) w.heap.size (flc F)) := Blk.allocAt (flc F) rfl
  obtain ⟨b0, b1, b2, b3, b4, b5, b6, b7, b8, b9, b10, b11, b12, b13, b14, b15, hFe⟩ := sixteen F hF
  have hA : (flc F).toArray = #[.bool b0, .bool b1, .bool b2, .bool b3, .bool b4, .bool b5, .bool b6, .bool b7, .bool b8, .bool b9, .bool b10, .bool b11, .bool b12, .bool b13, .bool b14, .bool b15] := by rw [hFe]; rfl
  rw [hA] at HB HK ⊢
  clear hA hFe
  go_enter Tryz.func142, Tryz.ntmps142
  go_wp2
  generalize w.alloc (.cells #[.bool b0, .bool b1, .bool b2, .bool b3, .bool b4, .bool b5, .bool b6, .bool b7, .bool b8, .bool b9, .bool b10, .bool b11, .bool b12, .bool b13, .bool b14, .bool b15] 170) = w1 at HB HK ⊢
  go_loop [7] (fun i => ∃ k : Nat, k ≤ c ∧ i = .int .i64 k ∧ (List.range k).all (fun k => fl F (k * 4 + k)) = true) (fun i => c - (intOf i).toNat)
  case atStart => exact ⟨0, Nat.zero_le _, rfl, rfl⟩
  case round =>
    obtain ⟨k, hk, rfl, hd⟩ := hrel
    have HD := hide hd
    clear hd
    by_cases hlt : k < c
    · obtain ⟨hcell, _⟩ := (unhide HK).flag (k * 4 + k) (by omega)
      cases hv : fl F (k * 4 + k)
      · rw [hv] at hcell
        have HM : Hid (selfB F c = false) := range_all_miss _ c k hlt hv
        go_wp2
        go_ret
        exact ⟨ret_bool (unhide HM).symm, unhide HB⟩
      · rw [hv] at hcell
        have HS := hide (range_all_step (fun k => fl F (k * 4 + k)) k)
        have HV := hide hv
        clear hv
        go_wp2
        go_round
        case rel => exact ⟨k + 1, by omega, by go_num, by rw [unhide HS, unhide HD, unhide HV]; rfl⟩
        case measure => simp [intOf]; omega
    · obtain rfl : k = c := by omega
      go_wp2
      go_ret
      exact ⟨ret_bool (unhide HD).symm, unhide HB⟩
/-- Turned up to row i, column j. -/
def turnTo (F G : List Bool) (i j : Nat) : Prop := G.length = 16 ∧ ∀ a b, a < 4 → b < 4 → (a < i ∨ a = i ∧ b < j) → fl G (b * 4 + a) = fl F (a * 4 + b)
theorem turnTo.step {F G : List Bool} {i j : Nat} (h : turnTo F G i j) (hi : i < 4) (hj : j < 4) : turnTo F (G.set (j * 4 + i) (fl F (i * 4 + j))) i (j + 1) := by
  refine ⟨by rw [List.length_set]; exact h.1, fun a b ha hb hab => ?_⟩
  by_cases e : b * 4 + a = j * 4 + i
  · have e1 : a = i := by omega
    have e2 : b = j := by omega
    subst e1 e2
    rw [fl, List.getD_eq_getElem?_getD, List.getElem?_set_self (by rw [h.1]; omega)]
    rfl
  · have := h.2 a b ha hb (by omega)
    rw [← this]
    unfold fl
    simp only [List.getD_eq_getElem?_getD]
    rw [ List.getElem?_set_ne (by omega)]
theorem turnTo.row {F G : List Bool} {i : Nat} (h : turnTo F G i 4) : turnTo F G (i + 1) 0 :=
  ⟨h.1, fun a b ha hb hab => h.2 a b ha hb (by omega)⟩
theorem turnTo.done {F G : List Bool} (h : turnTo F G 4 0) : G = turnL F := by
  refine List.ext_getElem? fun i => ?_
  by_cases hi : i < 16
  · have h1 := h.2 (i % 4) (i / 4) (by omega) (by omega) (by omega)
    rw [show i / 4 * 4 + i % 4 = i by omega] at h1
    rw [fl, List.getD_eq_getElem?_getD, List.getElem?_eq_getElem (by rw [h.1]; exact hi)] at h1
    rw [List.getElem?_eq_getElem (by rw [h.1]; exact hi)]
    simp only [turnL, List.getElem?_map, List.getElem?_range hi, Option.map_some]
    rw [← h1]
    rfl
  · rw [List.getElem?_eq_none (by rw [h.1]; omega), List.getElem?_eq_none (by simp [turnL]; omega)]
set_option maxHeartbeats 4000000 in
theorem turned_any (F : List Bool) (hF : F.length = 16) (w : World) :
    Calls Tryz.prog 141 #[.agg (flc F).toArray] w fun e w' => e = .returned (.agg (flc (turnL F)).toArray) ∧ Below w.heap.size w w' := by
  have HK : Hid (Blk (w.alloc (.cells (flc F).toArray 170)) w.heap.size (flc F)) := Blk.allocAt (flc F) rfl
  obtain ⟨b0, b1, b2, b3, b4, b5, b6, b7, b8, b9, b10, b11, b12, b13, b14, b15, hFe⟩ := sixteen F hF
  have hA : (flc F).toArray = #[.bool b0, .bool b1, .bool b2, .bool b3, .bool b4, .bool b5, .bool b6, .bool b7, .bool b8, .bool b9, .bool b10, .bool b11, .bool b12, .bool b13, .bool b14, .bool b15] := by rw [hFe]; rfl
  rw [hA] at HK ⊢
  clear hA hFe
  have HB : Hid (Below w.heap.size w (((w.alloc (.cells #[.bool b0, .bool b1, .bool b2, .bool b3, .bool b4, .bool b5, .bool b6, .bool b7, .bool b8, .bool b9, .bool b10, .bool b11, .bool b12, .bool b13, .bool b14, .bool b15] 170)).alloc (.cells #[.bool false, .bool false, .bool false, .bool false, .bool false, .bool false, .bool false, .bool false, .bool false, .bool false, .bool false, .bool false, .bool false, .bool false, .bool false, .bool false] 170)).alloc (.cells #[.bool false, .bool false, .bool false, .bool false, .bool false, .bool false, .bool false, .bool false, .bool false, .bool false, .bool false, .bool false, .bool false, .bool false, .bool false, .bool false] 170))) := (((Below.refl _ _).alloc (Nat.le_refl _) _).alloc (by simp) _).alloc (by simp; omega) _
  have HKA : Hid (Blk (((w.alloc (.cells #[.bool b0, .bool b1, .bool b2, .bool b3, .bool b4, .bool b5, .bool b6, .bool b7, .bool b8, .bool b9, .bool b10, .bool b11, .bool b12, .bool b13, .bool b14, .bool b15] 170)).alloc (.cells #[.bool false, .bool false, .bool false, .bool false, .bool false, .bool false, .bool false, .bool false, .bool false, .bool false, .bool false, .bool false, .bool false, .bool false, .bool false, .bool false] 170)).alloc (.cells #[.bool false, .bool false, .bool false, .bool false, .bool false, .bool false, .bool false, .bool false, .bool false, .bool false, .bool false, .bool false, .bool false, .bool false, .bool false, .bool false] 170)) w.heap.size (flc F)) := ((unhide HK).allocOld (by simp) _).allocOld (by simp; omega) _
  have HKR : Hid (Blk (((w.alloc (.cells #[.bool b0, .bool b1, .bool b2, .bool b3, .bool b4, .bool b5, .bool b6, .bool b7, .bool b8, .bool b9, .bool b10, .bool b11, .bool b12, .bool b13, .bool b14, .bool b15] 170)).alloc (.cells #[.bool false, .bool false, .bool false, .bool false, .bool false, .bool false, .bool false, .bool false, .bool false, .bool false, .bool false, .bool false, .bool false, .bool false, .bool false, .bool false] 170)).alloc (.cells #[.bool false, .bool false, .bool false, .bool false, .bool false, .bool false, .bool false, .bool false, .bool false, .bool false, .bool false, .bool false, .bool false, .bool false, .bool false, .bool false] 170)) (w.heap.size + 1) (flc (List.replicate 16 false))) := (Blk.allocAt (flc (List.replicate 16 false)) (by simp)).allocOld (by simp) _
  have HKG : Hid (Blk (((w.alloc (.cells #[.bool b0, .bool b1, .bool b2, .bool b3, .bool b4, .bool b5, .bool b6, .bool b7, .bool b8, .bool b9, .bool b10, .bool b11, .bool b12, .bool b13, .bool b14, .bool b15] 170)).alloc (.cells #[.bool false, .bool false, .bool false, .bool false, .bool false, .bool false, .bool false, .bool false, .bool false, .bool false, .bool false, .bool false, .bool false, .bool false, .bool false, .bool false] 170)).alloc (.cells #[.bool false, .bool false, .bool false, .bool false, .bool false, .bool false, .bool false, .bool false, .bool false, .bool false, .bool false, .bool false, .bool false, .bool false, .bool false, .bool false] 170)) (w.heap.size + 2) (flc (List.replicate 16 false))) := Blk.allocAt (flc (List.replicate 16 false)) (by simp)
  go_enter Tryz.func141, Tryz.ntmps141
  go_wp2
  generalize ((w.alloc (.cells #[.bool b0, .bool b1, .bool b2, .bool b3, .bool b4, .bool b5, .bool b6, .bool b7, .bool b8, .bool b9, .bool b10, .bool b11, .bool b12, .bool b13, .bool b14, .bool b15] 170)).alloc (.cells #[.bool false, .bool false, .bool false, .bool false, .bool false, .bool false, .bool false, .bool false, .bool false, .bool false, .bool false, .bool false, .bool false, .bool false, .bool false, .bool false] 170)).alloc (.cells #[.bool false, .bool false, .bool false, .bool false, .bool false, .bool false, .bool false, .bool false, .bool false, .bool false, .bool false, .bool false, .bool false, .bool false, .bool false, .bool false] 170) = w1 at HB HKA HKR HKG ⊢
  go_loopw [6] (fun i wr => ∃ (k : Nat) (G : List Bool), k ≤ 4 ∧ i = .int .i64 k ∧ turnTo F G k 0 ∧ Below w.heap.size w wr ∧ Blk wr w.heap.size (flc F) ∧ Blk wr (w.heap.size + 1) (flc (List.replicate 16 false)) ∧ Blk wr (w.heap.size + 2) (flc G)) (fun i _ => 4 - (intOf i).toNat)
  case atStart => exact ⟨0, List.replicate 16 false, by omega, rfl, ⟨by simp, fun a b _ _ h => by omega⟩, unhide HB, unhide HKA, unhide HKR, unhide HKG⟩
  case round =>
    clear HB HK HKA HKR HKG
    obtain ⟨i, G, hi, rfl, ht, hbel, hka, hkr, hkg⟩ := hrel
    by_cases hlt : i < 4
    case neg =>
      obtain rfl : i = 4 := by omega
      have hgt : G = turnL F := ht.done
      obtain ⟨c0, c1, c2, c3, c4, c5, c6, c7, c8, c9, c10, c11, c12, c13, c14, c15, hG⟩ := sixteen G ht.1
      have HV : Hid (Value.agg (flc (turnL F)).toArray = .agg #[.bool c0, .bool c1, .bool c2, .bool c3, .bool c4, .bool c5, .bool c6, .bool c7, .bool c8, .bool c9, .bool c10, .bool c11, .bool c12, .bool c13, .bool c14, .bool c15]) := by rw [← hgt, hG]; rfl
      have HBE := hide (below_write (B := w.heap.size) (g := w.heap.size + 1) (by omega) (flc G) _ _ 0 hbel)
      rw [hG] at hkg HBE
      have t0 : wr.cell? ⟨w.heap.size + 1 + 1, 0, none⟩ = some (.bool c0) := (hkg 0 (by simp [flc])).1
      have r0 : wr.cell? ⟨w.heap.size + 1, 0, none⟩ = some (.bool false) := (hkr 0 (by simp [flc])).1
      have z0 : wr.frozen? ⟨w.heap.size + 1, 0, none⟩ = false := (hkr 0 (by simp [flc])).2
      have t1 : wr.cell? ⟨w.heap.size + 1 + 1, 1, none⟩ = some (.bool c1) := (hkg 1 (by simp [flc])).1
      have r1 : wr.cell? ⟨w.heap.size + 1, 1, none⟩ = some (.bool false) := (hkr 1 (by simp [flc])).1
      have z1 : wr.frozen? ⟨w.heap.size + 1, 1, none⟩ = false := (hkr 1 (by simp [flc])).2
      have t2 : wr.cell? ⟨w.heap.size + 1 + 1, 2, none⟩ = some (.bool c2) := (hkg 2 (by simp [flc])).1
      have r2 : wr.cell? ⟨w.heap.size + 1, 2, none⟩ = some (.bool false) := (hkr 2 (by simp [flc])).1
      have z2 : wr.frozen? ⟨w.heap.size + 1, 2, none⟩ = false := (hkr 2 (by simp [flc])).2
      have t3 : wr.cell? ⟨w.heap.size + 1 + 1, 3, none⟩ = some (.bool c3) := (hkg 3 (by simp [flc])).1
      have r3 : wr.cell? ⟨w.heap.size + 1, 3, none⟩ = some (.bool false) := (hkr 3 (by simp [flc])).1
      have z3 : wr.frozen? ⟨w.heap.size + 1, 3, none⟩ = false := (hkr 3 (by simp [flc])).2
      have t4 : wr.cell? ⟨w.heap.size + 1 + 1, 4, none⟩ = some (.bool c4) := (hkg 4 (by simp [flc])).1
      have r4 : wr.cell? ⟨w.heap.size + 1, 4, none⟩ = some (.bool false) := (hkr 4 (by simp [flc])).1
      have z4 : wr.frozen? ⟨w.heap.size + 1, 4, none⟩ = false := (hkr 4 (by simp [flc])).2
      have t5 : wr.cell? ⟨w.heap.size + 1 + 1, 5, none⟩ = some (.bool c5) := (hkg 5 (by simp [flc])).1
      have r5 : wr.cell? ⟨w.heap.size + 1, 5, none⟩ = some (.bool false) := (hkr 5 (by simp [flc])).1
      have z5 : wr.frozen? ⟨w.heap.size + 1, 5, none⟩ = false := (hkr 5 (by simp [flc])).2
      have t6 : wr.cell? ⟨w.heap.size + 1 + 1, 6, none⟩ = some (.bool c6) := (hkg 6 (by simp [flc])).1
      have r6 : wr.cell? ⟨w.heap.size + 1, 6, none⟩ = some (.bool false) := (hkr 6 (by simp [flc])).1
      have z6 : wr.frozen? ⟨w.heap.size + 1, 6, none⟩ = false := (hkr 6 (by simp [flc])).2
      have t7 : wr.cell? ⟨w.heap.size + 1 + 1, 7, none⟩ = some (.bool c7) := (hkg 7 (by simp [flc])).1
      have r7 : wr.cell? ⟨w.heap.size + 1, 7, none⟩ = some (.bool false) := (hkr 7 (by simp [flc])).1
      have z7 : wr.frozen? ⟨w.heap.size + 1, 7, none⟩ = false := (hkr 7 (by simp [flc])).2
      have t8 : wr.cell? ⟨w.heap.size + 1 + 1, 8, none⟩ = some (.bool c8) := (hkg 8 (by simp [flc])).1
      have r8 : wr.cell? ⟨w.heap.size + 1, 8, none⟩ = some (.bool false) := (hkr 8 (by simp [flc])).1
      have z8 : wr.frozen? ⟨w.heap.size + 1, 8, none⟩ = false := (hkr 8 (by simp [flc])).2
      have t9 : wr.cell? ⟨w.heap.size + 1 + 1, 9, none⟩ = some (.bool c9) := (hkg 9 (by simp [flc])).1
      have r9 : wr.cell? ⟨w.heap.size + 1, 9, none⟩ = some (.bool false) := (hkr 9 (by simp [flc])).1
      have z9 : wr.frozen? ⟨w.heap.size + 1, 9, none⟩ = false := (hkr 9 (by simp [flc])).2
      have t10 : wr.cell? ⟨w.heap.size + 1 + 1, 10, none⟩ = some (.bool c10) := (hkg 10 (by simp [flc])).1
      have r10 : wr.cell? ⟨w.heap.size + 1, 10, none⟩ = some (.bool false) := (hkr 10 (by simp [flc])).1
      have z10 : wr.frozen? ⟨w.heap.size + 1, 10, none⟩ = false := (hkr 10 (by simp [flc])).2
      have t11 : wr.cell? ⟨w.heap.size + 1 + 1, 11, none⟩ = some (.bool c11) := (hkg 11 (by simp [flc])).1
      have r11 : wr.cell? ⟨w.heap.size + 1, 11, none⟩ = some (.bool false) := (hkr 11 (by simp [flc])).1
      have z11 : wr.frozen? ⟨w.heap.size + 1, 11, none⟩ = false := (hkr 11 (by simp [flc])).2
      have t12 : wr.cell? ⟨w.heap.size + 1 + 1, 12, none⟩ = some (.bool c12) := (hkg 12 (by simp [flc])).1
      have r12 : wr.cell? ⟨w.heap.size + 1, 12, none⟩ = some (.bool false) := (hkr 12 (by simp [flc])).1
      have z12 : wr.frozen? ⟨w.heap.size + 1, 12, none⟩ = false := (hkr 12 (by simp [flc])).2
      have t13 : wr.cell? ⟨w.heap.size + 1 + 1, 13, none⟩ = some (.bool c13) := (hkg 13 (by simp [flc])).1
      have r13 : wr.cell? ⟨w.heap.size + 1, 13, none⟩ = some (.bool false) := (hkr 13 (by simp [flc])).1
      have z13 : wr.frozen? ⟨w.heap.size + 1, 13, none⟩ = false := (hkr 13 (by simp [flc])).2
      have t14 : wr.cell? ⟨w.heap.size + 1 + 1, 14, none⟩ = some (.bool c14) := (hkg 14 (by simp [flc])).1
      have r14 : wr.cell? ⟨w.heap.size + 1, 14, none⟩ = some (.bool false) := (hkr 14 (by simp [flc])).1
      have z14 : wr.frozen? ⟨w.heap.size + 1, 14, none⟩ = false := (hkr 14 (by simp [flc])).2
      have t15 : wr.cell? ⟨w.heap.size + 1 + 1, 15, none⟩ = some (.bool c15) := (hkg 15 (by simp [flc])).1
      have r15 : wr.cell? ⟨w.heap.size + 1, 15, none⟩ = some (.bool false) := (hkr 15 (by simp [flc])).1
      have z15 : wr.frozen? ⟨w.heap.size + 1, 15, none⟩ = false := (hkr 15 (by simp [flc])).2
      clear hgt hG ht hbel hka hkr hkg
      go_wp2_with fail
      refine bodyPost_ret (v := .agg #[.bool c0, .bool c1, .bool c2, .bool c3, .bool c4, .bool c5, .bool c6, .bool c7, .bool c8, .bool c9, .bool c10, .bool c11, .bool c12, .bool c13, .bool c14, .bool c15]) (by simp [results, Tryz.results141, go_sem, r0, r1, r2, r3, r4, r5, r6, r7, r8, r9, r10, r11, r12, r13, r14, r15]) rfl ?_
      exact ⟨by rw [unhide HV], unhide HBE⟩
    have HT := hide ht
    have HB := hide hbel
    have HKA := hide hka
    have HKR := hide hkr
    have HKG := hide hkg
    clear ht hbel hka hkr hkg
    go_wp2
    go_loopw [9] (fun j wr => ∃ (k : Nat) (G : List Bool), k ≤ 4 ∧ j = .int .i64 k ∧ turnTo F G i k ∧ Below w.heap.size w wr ∧ Blk wr w.heap.size (flc F) ∧ Blk wr (w.heap.size + 1) (flc (List.replicate 16 false)) ∧ Blk wr (w.heap.size + 2) (flc G)) (fun i _ => 4 - (intOf i).toNat)
    case atStart => exact ⟨0, G, by omega, rfl, unhide HT, unhide HB, unhide HKA, unhide HKR, unhide HKG⟩
    case round =>
      clear HT HB HKA HKR HKG G
      obtain ⟨j, G, hj, rfl, ht, hbel, hka, hkr, hkg⟩ := hrel
      by_cases hlt2 : j < 4
      case neg =>
        obtain rfl : j = 4 := by omega
        go_wp2
        go_roundw
        case rel => exact ⟨i + 1, G, by omega, by go_num, ht.row, hbel, hka, hkr, hkg⟩
        case measure => simp [intOf]; omega
      have c1 := (hka.flag (i * 4 + j) (by omega)).1
      have c2 := (hkg.flag (j * 4 + i) (by rw [ht.1]; omega)).1
      have f2 := (hkg.flag (j * 4 + i) (by rw [ht.1]; omega)).2
      have HT := hide (ht.step hlt hlt2)
      have HB : Hid (Below w.heap.size w (wr.setCell ⟨w.heap.size + 2, j * 4 + i, none⟩ (.bool (fl F (i * 4 + j))))) := hbel.setCell (by show w.heap.size ≤ w.heap.size + 2; omega) _
      have HKA := hide (hka.other (g' := w.heap.size + 2) (j := j * 4 + i) (v := .bool (fl F (i * 4 + j))) (by omega))
      have HKR := hide (hkr.other (g' := w.heap.size + 2) (j := j * 4 + i) (v := .bool (fl F (i * 4 + j))) (by omega))
      have HKG : Hid (Blk (wr.setCell ⟨w.heap.size + 2, j * 4 + i, none⟩ (.bool (fl F (i * 4 + j)))) (w.heap.size + 2) (flc (G.set (j * 4 + i) (fl F (i * 4 + j))))) := by
        rw [← flc_set]
        exact hkg.set (by rw [flc_len, ht.1]; omega)
      clear ht hbel hka hkr hkg
      generalize fl F (i * 4 + j) = v at c1 HT HB HKA HKR HKG
      go_wp2_with fail
      go_region
      all_goals
        go_wp2_with fail
        go_roundw
        case rel => exact ⟨j + 1, _, by omega, by go_num, unhide HT, (unhide HB).drew, unhide HKA, unhide HKR, unhide HKG⟩
        case measure => simp [intOf]; omega

end Go.Proofs.YtlakbnpinennnaaGreatDoor
