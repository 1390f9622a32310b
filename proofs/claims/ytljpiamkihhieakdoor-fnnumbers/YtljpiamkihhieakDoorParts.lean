/- The model's Parts and the program's, each at every text: what stands between such bytes. -/
import Derived.Test.YtljpiamkihhieakDoorStrs
import Derived.Test.YtljpiamkihhieakDoorShelf
import Derived.OpenShut
namespace Go.Proofs.YtljpiamkihhieakDoor
open Go.RowKit

/-- How far the parting has come behind k bytes: the parts so far, and where the next one begins. -/
def pst (s : ByteArray) (b : UInt8) : Nat → List ByteArray × Nat
  | 0 => ([], 0)
  | i + 1 => if i = s.size ∨ s.data.toList[i]? = some b then ((pst s b i).1 ++ [s.extract (pst s b i).2 i], i + 1) else pst s b i
def partsOf (s : ByteArray) (b : UInt8) : List ByteArray := (pst s b (s.size + 1)).1

theorem pst_hit (s : ByteArray) (b : UInt8) (i : Nat) (h : i = s.size ∨ s.data.toList[i]? = some b) : pst s b (i + 1) = ((pst s b i).1 ++ [s.extract (pst s b i).2 i], i + 1) := by
  rw [pst, if_pos h]
theorem pst_miss (s : ByteArray) (b : UInt8) (i : Nat) (h : ¬ (i = s.size ∨ s.data.toList[i]? = some b)) : pst s b (i + 1) = pst s b i := by
  rw [pst, if_neg h]
theorem pst_bd (s : ByteArray) (b : UInt8) (i : Nat) : (pst s b i).1.length ≤ i ∧ (pst s b i).2 ≤ i := by
  induction i with
  | zero => simp [pst]
  | succ i ih =>
    by_cases h : i = s.size ∨ s.data.toList[i]? = some b
    · rw [pst_hit s b i h]; simp; omega
    · rw [pst_miss s b i h]; omega
theorem parts_len (s : ByteArray) (b : UInt8) : (partsOf s b).length ≤ s.size + 1 := (pst_bd s b (s.size + 1)).1

theorem hit_iff (s : ByteArray) (b : UInt8) (k : Nat) (h : k < s.size) : (k = s.size ∨ s.data.toList[k]? = some b) ↔ (s[k].toNat : Int) = (b.toNat : Int) := by
  rw [byte_at s k h]
  constructor
  · rintro (h' | h')
    · omega
    · cases h'; rfl
  · intro h'
    refine Or.inr ?_
    congr 1
    exact UInt8.toNat_inj.1 (by omega)

/-- What an append of one text does to the round's relation. -/
theorem app_one {w wr w1 : World} {g cap n : Nat} {v' : Value} {ps : List ByteArray} {x : ByteArray} {t : TypeId} (hn : ps.length = n)
    (hown : wr.ownsRow w.heap.size 9 1 (.slice (some ⟨g, 0, none⟩) n cap) n (ps.map Value.string)) (hbel : Below w.heap.size w wr)
    (h1 : w1.ownsRow w.heap.size 9 1 v' (n + 1) (ps.map Value.string ++ [.string x])) (h2 : (wr.alloc (.cells #[.string x] t)).grownBy w1 (Value.slice (some ⟨g, 0, none⟩) n cap).ownBlock)
    (h3 : v' = .slice none 0 0 ↔ Value.slice (some ⟨g, 0, none⟩) n cap = .slice none 0 0 ∧ 1 = 0) :
    ∃ g' cap', v' = .slice (some ⟨g', 0, none⟩) (ps ++ [x]).length cap' ∧ w1.ownsRow w.heap.size 9 1 (.slice (some ⟨g', 0, none⟩) (ps ++ [x]).length cap') (ps ++ [x]).length ((ps ++ [x]).map Value.string) ∧ Below w.heap.size w w1 := by
  have hne : ¬ v' = .slice none 0 0 := fun h => by have := (h3.1 h).2; omega
  obtain ⟨g', cap', rfl⟩ := own_shape h1 hne
  have hl : (ps ++ [x]).length = n + 1 := by simp [hn]
  refine ⟨g', cap', by rw [hl], ?_, ?_⟩
  · rw [hl]; simpa using h1
  · refine (hbel.alloc hbel.size (.cells #[.string x] t)).grown h2 (by have := hbel.size; simp; omega) ?_
    intro j hj
    have : g = j := by simpa [Value.ownBlock] using hj
    rw [← this]
    exact own_base hown

theorem clone_any (s : ByteArray) (w : World) (hs : s.size ≤ 281474976710656) :
    Calls Tryd.prog 20 #[.string s] w fun e w' => e = .returned (.string s) ∧ Below w.heap.size w w' := by
  go_enter Tryd.func20, Tryd.ntmps20
  go_wp2_with fail
  refine (Tryd.stringslite_Clone s w hs).mono ?_
  rintro e w1 ⟨rfl, hb⟩
  go_wp2
  go_ret
  exact ⟨rfl, hb⟩

theorem ext_size (s : ByteArray) (f k : Nat) : (s.extract f k).size ≤ s.size := by
  rw [ByteArray.size_extract]; omega

theorem RdS.grown {w w' : World} {g b n : Nat} {ss : List ByteArray} (h : RdS w (some ⟨b, 0, none⟩) n ss) (hg : w.grownBy w' (some g)) (hne : b ≠ g) : RdS w' (some ⟨b, 0, none⟩) n ss :=
  ⟨h.1, fun i hi => by
    obtain ⟨b', off, ha, hc⟩ := h.2 i hi
    cases ha
    exact ⟨b, 0, rfl, hg.cell hc (by simpa using hne)⟩⟩

/-- The row stays owned behind a call that leaves what was there. -/
theorem app_two {w wr w0 w1 : World} {g cap n : Nat} {v' : Value} {ps : List ByteArray} {x : ByteArray} {t : TypeId} (hn : ps.length = n)
    (hown : wr.ownsRow w.heap.size 9 1 (.slice (some ⟨g, 0, none⟩) n cap) n (ps.map Value.string)) (hbel : Below w.heap.size w wr) (hb0 : Below wr.heap.size wr w0)
    (h1 : w1.ownsRow w.heap.size 9 1 v' (n + 1) (ps.map Value.string ++ [.string x])) (h2 : (w0.alloc (.cells #[.string x] t)).grownBy w1 (Value.slice (some ⟨g, 0, none⟩) n cap).ownBlock)
    (h3 : v' = .slice none 0 0 ↔ Value.slice (some ⟨g, 0, none⟩) n cap = .slice none 0 0 ∧ 1 = 0) :
    ∃ g' cap', v' = .slice (some ⟨g', 0, none⟩) (ps ++ [x]).length cap' ∧ w1.ownsRow w.heap.size 9 1 (.slice (some ⟨g', 0, none⟩) (ps ++ [x]).length cap') (ps ++ [x]).length ((ps ++ [x]).map Value.string) ∧ Below w.heap.size w w1 :=
  app_one hn (own_later hown hb0) (hbel.trans (hb0.mono hbel.size)) h1 h2 h3

set_option maxHeartbeats 1600000 in
theorem implParts_any (s : ByteArray) (b : UInt8) (w : World) (hs : s.size ≤ 1048576) :
    Calls Tryd.prog 10 #[.string s, .int .u8 (b.toNat : Int)] w fun e w' => ∃ g cap, e = .returned (.slice (some ⟨g, 0, none⟩) (partsOf s b).length cap) ∧
      w'.ownsRow w.heap.size 9 1 (.slice (some ⟨g, 0, none⟩) (partsOf s b).length cap) (partsOf s b).length ((partsOf s b).map Value.string) ∧ Below w.heap.size w w' := by
  obtain ⟨i0, hi, hz0, hz1, hz2⟩ := info_parts Tryd.infoStr
  have hown0 : (w.alloc (.cells #[] 9)).ownsRow w.heap.size 9 1 (.slice (some ⟨w.heap.size, 0, none⟩) 0 0) 0 [] := World.ownsRow_lit w #[] 0 (Nat.le_refl _) (Nat.zero_le _) rfl
  go_enter Tryd.func10, Tryd.ntmps10
  go_wp2
  go_loopw [5, 6, 7, 11] (fun o f _ i wr => ∃ k g cap : Nat, k ≤ s.size ∧ i = .int .i64 k ∧ f = .int .i64 (pst s b k).2 ∧ o = .slice (some ⟨g, 0, none⟩) (pst s b k).1.length cap ∧ wr.ownsRow w.heap.size 9 1 (.slice (some ⟨g, 0, none⟩) (pst s b k).1.length cap) (pst s b k).1.length ((pst s b k).1.map Value.string) ∧ Below w.heap.size w wr) (fun _ _ _ i _ => s.size - (intOf i).toNat)
  case atStart => exact ⟨0, w.heap.size, 0, Nat.zero_le _, rfl, rfl, rfl, hown0, (Below.refl _ _).alloc (Nat.le_refl _) _⟩
  case round =>
    obtain ⟨k, g, cap, hk, rfl, rfl, rfl, hown, hbel⟩ := hrel
    clear hown0
    have hpb := pst_bd s b k
    have hsz := hbel.size
    by_cases hend : k = s.size
    · subst hend
      have HP : Hid (pst s b (s.size + 1) = ((pst s b s.size).1 ++ [s.extract (pst s b s.size).2 s.size], s.size + 1)) := pst_hit s b s.size (Or.inl rfl)
      have HQ : Hid (partsOf s b = (pst s b (s.size + 1)).1) := rfl
      generalize hps : (pst s b s.size).1 = ps at *
      generalize hfr : (pst s b s.size).2 = f at *
      clear hps hfr
      generalize hpl : ps.length = n at *
      have HPL : Hid (ps.length = n) := hpl
      clear hpl
      go_wp2_with fail
      refine (clone_any (s.extract f s.size) wr (by have := ext_size s f s.size; omega)).mono ?_
      rintro e w0 ⟨rfl, hb0⟩
      have hsz0 := hb0.size
      go_wp2_with (first
        | (at_builtin; refine wpList_append_own _ rfl _ _ 30 rfl w.heap.size 9 i0 (.string ⟨#[]⟩) 1 16 Tryd.underlying30 hi hz0 hz1 hz2 rfl (by decide) (.slice (some ⟨g, 0, none⟩) n cap) n (ps.map Value.string) rfl ((own_later hown hb0).alloc _) ⟨w0.heap.size, 0, none⟩ 1 1 [.string (s.extract f s.size)] rfl rfl (cell_one_new _ _ _) (by simp [Value.oneCell']) (by unfold maxLen; omega) (by omega) (by simp; omega) ?_; intro v' w1 h1 h2 h3)
        | go_in)
      obtain ⟨g', cap', hv, ho, hb⟩ := app_two HPL.out hown hbel hb0 h1 h2 h3
      rw [hv]
      go_wp2
      go_ret
      exact ⟨g', cap', by rw [HQ.out, HP.out]; rfl, by rw [HQ.out, HP.out]; exact ho, hb⟩
    · have hlt : k < s.size := by omega
      by_cases hhit : k = s.size ∨ s.data.toList[k]? = some b
      · have HP : Hid (pst s b (k + 1) = ((pst s b k).1 ++ [s.extract (pst s b k).2 k], k + 1)) := pst_hit s b k hhit
        have hbe := (hit_iff s b k hlt).1 hhit
        have hbt : ((s[k].toNat : Int) == (b.toNat : Int)) = true := by simpa using hbe
        clear hhit hbe
        generalize hps : (pst s b k).1 = ps at *
        generalize hfr : (pst s b k).2 = f at *
        clear hps hfr
        generalize hpl : ps.length = n at *
        have HPL : Hid (ps.length = n) := hpl
        clear hpl
        go_wp2_with fail
        refine (clone_any (s.extract f k) wr (by have := ext_size s f k; omega)).mono ?_
        rintro e w0 ⟨rfl, hb0⟩
        have hsz0 := hb0.size
        go_wp2_with (first
        | (at_builtin; refine wpList_append_own _ rfl _ _ 30 rfl w.heap.size 9 i0 (.string ⟨#[]⟩) 1 16 Tryd.underlying30 hi hz0 hz1 hz2 rfl (by decide) (.slice (some ⟨g, 0, none⟩) n cap) n (ps.map Value.string) rfl ((own_later hown hb0).alloc _) ⟨w0.heap.size, 0, none⟩ 1 1 [.string (s.extract f k)] rfl rfl (cell_one_new _ _ _) (by simp [Value.oneCell']) (by unfold maxLen; omega) (by omega) (by simp; omega) ?_; intro v' w1 h1 h2 h3)
        | go_in)
        obtain ⟨g', cap', hv, ho, hb⟩ := app_two HPL.out hown hbel hb0 h1 h2 h3
        go_roundw
        case rel => exact ⟨k + 1, g', cap', by omega, by go_num, by rw [HP.out]; go_num, by rw [HP.out]; exact hv, by rw [HP.out]; exact ho, hb⟩
        case measure => simp [intOf]; omega
      · have HP : Hid (pst s b (k + 1) = pst s b k) := pst_miss s b k hhit
        have hbe : ¬ (s[k].toNat : Int) = (b.toNat : Int) := fun h => hhit ((hit_iff s b k hlt).2 h)
        have hbt : ((s[k].toNat : Int) == (b.toNat : Int)) = false := by rw [beq_eq_false_iff_ne]; exact hbe
        clear hhit hbe
        go_wp2
        go_roundw
        case rel => exact ⟨k + 1, g, cap, by omega, by go_num, by rw [HP.out], by rw [HP.out], by rw [HP.out]; exact hown, hbel⟩
        case measure => simp [intOf]; omega

end Go.Proofs.YtljpiamkihhieakDoor
