/- The model's Parts and the program's, each at every text: what stands between such bytes. -/
import Derived.Test.YtljpiamkihhieamStrMarks
import Derived.Test.YtljpiamkihhieamShelf
import Derived.OpenShut
namespace Go.Proofs.Ytljpiamkihhieam
open Go.RowKit

/-- How far the parting has come behind k bytes: the parts so far, and where the next one begins. -/
def pst (s : ByteArray) (b : UInt8) : Nat → List ByteArray × Nat
  | 0 => ([], 0)
  | i + 1 => if i = s.size ∨ s.data.toList[i]? = some b then ((pst s b i).1 ++ [s.extract (pst s b i).2 i], i + 1) else pst s b i
def partsOf (s : ByteArray) (b : UInt8) : List ByteArray := (pst s b (s.size + 1)).1

theorem pst_hit (s : ByteArray) (b : UInt8) (i : Nat) (h : i = s.size ∨ s.data.toList[i]? = some b) : pst s b (i + 1) = ((pst s b i).1 ++ [s.extract (pst s b i).2 i], i + 1) := by
  rw [pst, if_pos h]
theorem pst_miss (s : ByteArray) (b : UInt8) (i : Nat) (h : ¬ (i = s.size ∨ s.data.toList[i]? = some b)) : pst s b (i + 1) = pst s b i := by
  rw [pst, if_neg h]
theorem pst_bd (s : ByteArray) (b : UInt8) (i : Nat) : (pst s b i).1.length ≤ i ∧ (pst s b i).2 ≤ i := by
  induction i with
  | zero => simp [pst]
  | succ i ih =>
    by_cases h : i = s.size ∨ s.data.toList[i]? = some b
    · rw [pst_hit s b i h]; simp; omega
    · rw [pst_miss s b i h]; omega
theorem parts_len (s : ByteArray) (b : UInt8) : (partsOf s b).length ≤ s.size + 1 := (pst_bd s b (s.size + 1)).1

theorem byte_at (s : ByteArray) (k : Nat) (h : k < s.size) : s.data.toList[k]? = some s[k] := by
  rw [List.getElem?_eq_getElem (by simpa using h)]; rfl
theorem hit_iff (s : ByteArray) (b : UInt8) (k : Nat) (h : k < s.size) : (k = s.size ∨ s.data.toList[k]? = some b) ↔ (s[k].toNat : Int) = (b.toNat : Int) := by
  rw [byte_at s k h]
  constructor
  · rintro (h' | h')
    · omega
    · cases h'; rfl
  · intro h'
    refine Or.inr ?_
    congr 1
    exact UInt8.toNat_inj.1 (by omega)

theorem own_shape {w : World} {base e size n : Nat} {v : Value} {xs : List Value} (h : w.ownsRow base e size v n xs) (hne : ¬ v = .slice none 0 0) : ∃ g cap, v = .slice (some ⟨g, 0, none⟩) n cap := by
  rcases h.2 with ⟨h', _⟩ | ⟨g, cap, cur, h', _⟩
  · exact absurd h' hne
  · exact ⟨g, cap, h'⟩

theorem own_base {w : World} {base e size n g cap : Nat} {xs : List Value} (h : w.ownsRow base e size (.slice (some ⟨g, 0, none⟩) n cap) n xs) : base ≤ g :=
  (h.lt g rfl).1

/-- What an append of one text does to the round's relation. -/
theorem app_one {w wr w1 : World} {g cap n : Nat} {v' : Value} {ps : List ByteArray} {x : ByteArray} {t : TypeId} (hn : ps.length = n)
    (hown : wr.ownsRow w.heap.size 9 1 (.slice (some ⟨g, 0, none⟩) n cap) n (ps.map Value.string)) (hbel : Below w.heap.size w wr)
    (h1 : w1.ownsRow w.heap.size 9 1 v' (n + 1) (ps.map Value.string ++ [.string x])) (h2 : (wr.alloc (.cells #[.string x] t)).grownBy w1 (Value.slice (some ⟨g, 0, none⟩) n cap).ownBlock)
    (h3 : v' = .slice none 0 0 ↔ Value.slice (some ⟨g, 0, none⟩) n cap = .slice none 0 0 ∧ 1 = 0) :
    ∃ g' cap', v' = .slice (some ⟨g', 0, none⟩) (ps ++ [x]).length cap' ∧ w1.ownsRow w.heap.size 9 1 (.slice (some ⟨g', 0, none⟩) (ps ++ [x]).length cap') (ps ++ [x]).length ((ps ++ [x]).map Value.string) ∧ Below w.heap.size w w1 := by
  have hne : ¬ v' = .slice none 0 0 := fun h => by have := (h3.1 h).2; omega
  obtain ⟨g', cap', rfl⟩ := own_shape h1 hne
  have hl : (ps ++ [x]).length = n + 1 := by simp [hn]
  refine ⟨g', cap', by rw [hl], ?_, ?_⟩
  · rw [hl]; simpa using h1
  · refine (hbel.alloc hbel.size (.cells #[.string x] t)).grown h2 (by have := hbel.size; simp; omega) ?_
    intro j hj
    have : g = j := by simpa [Value.ownBlock] using hj
    rw [← this]
    exact own_base hown

set_option maxHeartbeats 1600000 in
theorem specParts_any (s : ByteArray) (b : UInt8) (w : World) (hs : s.size ≤ 1048576) :
    Calls Try.prog 6 #[.string s, .int .u8 (b.toNat : Int)] w fun e w' => ∃ g cap, e = .returned (.slice (some ⟨g, 0, none⟩) (partsOf s b).length cap) ∧
      w'.ownsRow w.heap.size 9 1 (.slice (some ⟨g, 0, none⟩) (partsOf s b).length cap) (partsOf s b).length ((partsOf s b).map Value.string) ∧ Below w.heap.size w w' := by
  obtain ⟨i0, hi, hz0, hz1, hz2⟩ := info_parts Try.infoStr
  have hown0 : (w.alloc (.cells #[] 9)).ownsRow w.heap.size 9 1 (.slice (some ⟨w.heap.size, 0, none⟩) 0 0) 0 [] := World.ownsRow_lit w #[] 0 (Nat.le_refl _) (Nat.zero_le _) rfl
  go_enter Try.func6, Try.ntmps6
  go_wp2
  go_loopw [5, 6, 7] (fun o f i wr => ∃ k g cap : Nat, k ≤ s.size + 1 ∧ i = .int .i64 k ∧ f = .int .i64 (pst s b k).2 ∧ o = .slice (some ⟨g, 0, none⟩) (pst s b k).1.length cap ∧ wr.ownsRow w.heap.size 9 1 (.slice (some ⟨g, 0, none⟩) (pst s b k).1.length cap) (pst s b k).1.length ((pst s b k).1.map Value.string) ∧ Below w.heap.size w wr) (fun _ _ i _ => s.size + 1 - (intOf i).toNat)
  case atStart => exact ⟨0, w.heap.size, 0, Nat.zero_le _, rfl, rfl, rfl, hown0, (Below.refl _ _).alloc (Nat.le_refl _) _⟩
  case round =>
    obtain ⟨k, g, cap, hk, rfl, rfl, rfl, hown, hbel⟩ := hrel
    clear hown0
    have hpb := pst_bd s b k
    have hsz := hbel.size
    by_cases hend : k = s.size + 1
    · subst hend
      go_wp2
      go_ret
      exact ⟨g, cap, rfl, hown, hbel⟩
    · by_cases hhit : k = s.size ∨ s.data.toList[k]? = some b
      · have HP : Hid (pst s b (k + 1) = ((pst s b k).1 ++ [s.extract (pst s b k).2 k], k + 1)) := pst_hit s b k hhit
        generalize hps : (pst s b k).1 = ps at *
        generalize hfr : (pst s b k).2 = f at *
        clear hps hfr
        generalize hpl : ps.length = n at *
        have HPL : Hid (ps.length = n) := hpl
        clear hpl
        by_cases hks : k = s.size
        · subst hks
          clear hhit
          go_wp2_with (first
            | (at_builtin; refine wpList_append_own _ rfl _ _ 22 rfl w.heap.size 9 i0 (.string ⟨#[]⟩) 1 16 Try.underlying22 hi hz0 hz1 hz2 rfl (by decide) (.slice (some ⟨g, 0, none⟩) n cap) n (ps.map Value.string) rfl (hown.alloc _) ⟨wr.heap.size, 0, none⟩ 1 1 [.string (s.extract f s.size)] rfl rfl (cell_one_new _ _ _) (by simp [Value.oneCell']) (by unfold maxLen; omega) (by omega) (by simp; omega) ?_; intro v' w1 h1 h2 h3)
            | go_in)
          obtain ⟨g', cap', hv, ho, hb⟩ := app_one HPL.out hown hbel h1 h2 h3
          go_roundw
          case rel => exact ⟨s.size + 1, g', cap', Nat.le_refl _, by go_num, by rw [HP.out]; go_num, by rw [HP.out]; exact hv, by rw [HP.out]; exact ho, hb⟩
          case measure => first | (simp [intOf]; done) | (simp [intOf]; omega)
        · have hlt : k < s.size := by omega
          have hbe := (hit_iff s b k hlt).1 hhit
          have hbt : ((s[k].toNat : Int) == (b.toNat : Int)) = true := by simpa using hbe
          have hkn : ((k : Int) == (s.size : Int)) = false := by simp; omega
          clear hhit hbe
          go_wp2_with (first
            | (at_builtin; refine wpList_append_own _ rfl _ _ 22 rfl w.heap.size 9 i0 (.string ⟨#[]⟩) 1 16 Try.underlying22 hi hz0 hz1 hz2 rfl (by decide) (.slice (some ⟨g, 0, none⟩) n cap) n (ps.map Value.string) rfl (hown.alloc _) ⟨wr.heap.size, 0, none⟩ 1 1 [.string (s.extract f k)] rfl rfl (cell_one_new _ _ _) (by simp [Value.oneCell']) (by unfold maxLen; omega) (by omega) (by simp; omega) ?_; intro v' w1 h1 h2 h3)
            | go_in)
          obtain ⟨g', cap', hv, ho, hb⟩ := app_one HPL.out hown hbel h1 h2 h3
          go_roundw
          case rel => exact ⟨k + 1, g', cap', by omega, by go_num, by rw [HP.out]; go_num, by rw [HP.out]; exact hv, by rw [HP.out]; exact ho, hb⟩
          case measure => simp [intOf]; omega
      · have HP : Hid (pst s b (k + 1) = pst s b k) := pst_miss s b k hhit
        have hlt : k < s.size := by omega
        have hbe : ¬ (s[k].toNat : Int) = (b.toNat : Int) := fun h => hhit ((hit_iff s b k hlt).2 h)
        have hbt : ((s[k].toNat : Int) == (b.toNat : Int)) = false := by rw [beq_eq_false_iff_ne]; exact hbe
        have hkn : ((k : Int) == (s.size : Int)) = false := by simp; omega
        clear hhit hbe
        go_wp2
        go_roundw
        case rel => exact ⟨k + 1, g, cap, by omega, by go_num, by rw [HP.out], by rw [HP.out], by rw [HP.out]; exact hown, hbel⟩
        case measure => simp [intOf]; omega

theorem clone_any (s : ByteArray) (w : World) (hs : s.size ≤ 281474976710656) :
    Calls Try.prog 19 #[.string s] w fun e w' => e = .returned (.string s) ∧ Below w.heap.size w w' := by
  go_enter Try.func19, Try.ntmps19
  go_wp2_with fail
  refine (Try.stringslite_Clone s w hs).mono ?_
  rintro e w1 ⟨rfl, hb⟩
  go_wp2
  go_ret
  exact ⟨rfl, hb⟩

theorem ext_size (s : ByteArray) (f k : Nat) : (s.extract f k).size ≤ s.size := by
  rw [ByteArray.size_extract]; omega

theorem RdS.grown {w w' : World} {g b n : Nat} {ss : List ByteArray} (h : RdS w (some ⟨b, 0, none⟩) n ss) (hg : w.grownBy w' (some g)) (hne : b ≠ g) : RdS w' (some ⟨b, 0, none⟩) n ss :=
  ⟨h.1, fun i hi => by
    obtain ⟨b', off, ha, hc⟩ := h.2 i hi
    cases ha
    exact ⟨b, 0, rfl, hg.cell hc (by simpa using hne)⟩⟩

/-- The row stays owned behind a call that leaves what was there. -/
theorem app_two {w wr w0 w1 : World} {g cap n : Nat} {v' : Value} {ps : List ByteArray} {x : ByteArray} {t : TypeId} (hn : ps.length = n)
    (hown : wr.ownsRow w.heap.size 9 1 (.slice (some ⟨g, 0, none⟩) n cap) n (ps.map Value.string)) (hbel : Below w.heap.size w wr) (hb0 : Below wr.heap.size wr w0)
    (h1 : w1.ownsRow w.heap.size 9 1 v' (n + 1) (ps.map Value.string ++ [.string x])) (h2 : (w0.alloc (.cells #[.string x] t)).grownBy w1 (Value.slice (some ⟨g, 0, none⟩) n cap).ownBlock)
    (h3 : v' = .slice none 0 0 ↔ Value.slice (some ⟨g, 0, none⟩) n cap = .slice none 0 0 ∧ 1 = 0) :
    ∃ g' cap', v' = .slice (some ⟨g', 0, none⟩) (ps ++ [x]).length cap' ∧ w1.ownsRow w.heap.size 9 1 (.slice (some ⟨g', 0, none⟩) (ps ++ [x]).length cap') (ps ++ [x]).length ((ps ++ [x]).map Value.string) ∧ Below w.heap.size w w1 :=
  app_one hn (own_later hown hb0) (hbel.trans (hb0.mono hbel.size)) h1 h2 h3

set_option maxHeartbeats 1600000 in
theorem implParts_any (s : ByteArray) (b : UInt8) (w : World) (hs : s.size ≤ 1048576) :
    Calls Try.prog 7 #[.string s, .int .u8 (b.toNat : Int)] w fun e w' => ∃ g cap, e = .returned (.slice (some ⟨g, 0, none⟩) (partsOf s b).length cap) ∧
      w'.ownsRow w.heap.size 9 1 (.slice (some ⟨g, 0, none⟩) (partsOf s b).length cap) (partsOf s b).length ((partsOf s b).map Value.string) ∧ Below w.heap.size w w' := by
  obtain ⟨i0, hi, hz0, hz1, hz2⟩ := info_parts Try.infoStr
  have hown0 : (w.alloc (.cells #[] 9)).ownsRow w.heap.size 9 1 (.slice (some ⟨w.heap.size, 0, none⟩) 0 0) 0 [] := World.ownsRow_lit w #[] 0 (Nat.le_refl _) (Nat.zero_le _) rfl
  go_enter Try.func7, Try.ntmps7
  go_wp2
  go_loopw [5, 6, 7, 11] (fun o f _ i wr => ∃ k g cap : Nat, k ≤ s.size ∧ i = .int .i64 k ∧ f = .int .i64 (pst s b k).2 ∧ o = .slice (some ⟨g, 0, none⟩) (pst s b k).1.length cap ∧ wr.ownsRow w.heap.size 9 1 (.slice (some ⟨g, 0, none⟩) (pst s b k).1.length cap) (pst s b k).1.length ((pst s b k).1.map Value.string) ∧ Below w.heap.size w wr) (fun _ _ _ i _ => s.size - (intOf i).toNat)
  case atStart => exact ⟨0, w.heap.size, 0, Nat.zero_le _, rfl, rfl, rfl, hown0, (Below.refl _ _).alloc (Nat.le_refl _) _⟩
  case round =>
    obtain ⟨k, g, cap, hk, rfl, rfl, rfl, hown, hbel⟩ := hrel
    clear hown0
    have hpb := pst_bd s b k
    have hsz := hbel.size
    by_cases hend : k = s.size
    · subst hend
      have HP : Hid (pst s b (s.size + 1) = ((pst s b s.size).1 ++ [s.extract (pst s b s.size).2 s.size], s.size + 1)) := pst_hit s b s.size (Or.inl rfl)
      have HQ : Hid (partsOf s b = (pst s b (s.size + 1)).1) := rfl
      generalize hps : (pst s b s.size).1 = ps at *
      generalize hfr : (pst s b s.size).2 = f at *
      clear hps hfr
      generalize hpl : ps.length = n at *
      have HPL : Hid (ps.length = n) := hpl
      clear hpl
      go_wp2_with fail
      refine (clone_any (s.extract f s.size) wr (by have := ext_size s f s.size; omega)).mono ?_
      rintro e w0 ⟨rfl, hb0⟩
      have hsz0 := hb0.size
      go_wp2_with (first
        | (at_builtin; refine wpList_append_own _ rfl _ _ 22 rfl w.heap.size 9 i0 (.string ⟨#[]⟩) 1 16 Try.underlying22 hi hz0 hz1 hz2 rfl (by decide) (.slice (some ⟨g, 0, none⟩) n cap) n (ps.map Value.string) rfl ((own_later hown hb0).alloc _) ⟨w0.heap.size, 0, none⟩ 1 1 [.string (s.extract f s.size)] rfl rfl (cell_one_new _ _ _) (by simp [Value.oneCell']) (by unfold maxLen; omega) (by omega) (by simp; omega) ?_; intro v' w1 h1 h2 h3)
        | go_in)
      obtain ⟨g', cap', hv, ho, hb⟩ := app_two HPL.out hown hbel hb0 h1 h2 h3
      rw [hv]
      go_wp2
      go_ret
      exact ⟨g', cap', by rw [HQ.out, HP.out]; rfl, by rw [HQ.out, HP.out]; exact ho, hb⟩
    · have hlt : k < s.size := by omega
      by_cases hhit : k = s.size ∨ s.data.toList[k]? = some b
      · have HP : Hid (pst s b (k + 1) = ((pst s b k).1 ++ [s.extract (pst s b k).2 k], k + 1)) := pst_hit s b k hhit
        have hbe := (hit_iff s b k hlt).1 hhit
        have hbt : ((s[k].toNat : Int) == (b.toNat : Int)) = true := by simpa using hbe
        clear hhit hbe
        generalize hps : (pst s b k).1 = ps at *
        generalize hfr : (pst s b k).2 = f at *
        clear hps hfr
        generalize hpl : ps.length = n at *
        have HPL : Hid (ps.length = n) := hpl
        clear hpl
        go_wp2_with fail
        refine (clone_any (s.extract f k) wr (by have := ext_size s f k; omega)).mono ?_
        rintro e w0 ⟨rfl, hb0⟩
        have hsz0 := hb0.size
        go_wp2_with (first
        | (at_builtin; refine wpList_append_own _ rfl _ _ 22 rfl w.heap.size 9 i0 (.string ⟨#[]⟩) 1 16 Try.underlying22 hi hz0 hz1 hz2 rfl (by decide) (.slice (some ⟨g, 0, none⟩) n cap) n (ps.map Value.string) rfl ((own_later hown hb0).alloc _) ⟨w0.heap.size, 0, none⟩ 1 1 [.string (s.extract f k)] rfl rfl (cell_one_new _ _ _) (by simp [Value.oneCell']) (by unfold maxLen; omega) (by omega) (by simp; omega) ?_; intro v' w1 h1 h2 h3)
        | go_in)
        obtain ⟨g', cap', hv, ho, hb⟩ := app_two HPL.out hown hbel hb0 h1 h2 h3
        go_roundw
        case rel => exact ⟨k + 1, g', cap', by omega, by go_num, by rw [HP.out]; go_num, by rw [HP.out]; exact hv, by rw [HP.out]; exact ho, hb⟩
        case measure => simp [intOf]; omega
      · have HP : Hid (pst s b (k + 1) = pst s b k) := pst_miss s b k hhit
        have hbe : ¬ (s[k].toNat : Int) = (b.toNat : Int) := fun h => hhit ((hit_iff s b k hlt).2 h)
        have hbt : ((s[k].toNat : Int) == (b.toNat : Int)) = false := by rw [beq_eq_false_iff_ne]; exact hbe
        clear hhit hbe
        go_wp2
        go_roundw
        case rel => exact ⟨k + 1, g, cap, by omega, by go_num, by rw [HP.out], by rw [HP.out], by rw [HP.out]; exact hown, hbel⟩
        case measure => simp [intOf]; omega

set_option maxHeartbeats 1600000 in
/-- the law -/
theorem law_parts (s : ByteArray) (b : UInt8) (w : World) (hm : s.size ≤ maxLen) :
    Calls Try.prog 3 #[.string s, .int .u8 (b.toNat : Int)] w fun e w' => e = .returned (.bool true) ∧ Below w.heap.size w w' := by
  unfold maxLen at hm
  by_cases hs : s.size ≤ 1048576
  · have hgt : ¬ (1048576 : Int) < (s.size : Int) := by omega
    have hlen := parts_len s b
    have HPS := specParts_any s b
    have HPI := implParts_any s b
    generalize hpp : partsOf s b = ps at *
    clear hpp
    generalize hpl : ps.length = n at *
    have HPL : Hid (ps.length = n) := hpl
    clear hpl
    have HS := hide HPS
    have HI := hide HPI
    clear HPS HPI
    go_enter Try.func3, Try.ntmps3
    go_wp2_with fail
    refine (unhide HS w hs).mono ?_
    rintro e w1 ⟨g1, c1, rfl, ho1, hb1⟩
    go_wp2_with fail
    refine (unhide HI w1 hs).mono ?_
    rintro e w2 ⟨g2, c2, rfl, ho2, hb2⟩
    have hr1 := (RdS.of_owns ho1).mono hb2
    have hr2 := RdS.of_owns ho2
    have hb02 : Below w.heap.size w w2 := hb1.trans (hb2.mono hb1.size)
    go_wp2_with fail
    refine (eqStringS_same _ n c2 _ c1 ps w2 hr2 hr1 (by omega)).mono ?_
    rintro e w3 ⟨rfl, hb3⟩
    have ho3 := own_later ho2 hb3
    have hr13 := hr1.mono hb3
    have hb03 : Below w.heap.size w w3 := hb02.trans (hb3.mono hb02.size)
    clear hr1 hr2 ho2
    have hg2 : w1.heap.size ≤ g2 := own_base ho3
    go_wp2_with fail
    refine (markStringS_any _ g2 n c2 1 ps w3 ho3 (by omega) (by omega) (by omega)).mono ?_
    rintro e w4 ⟨rfl, ho4, hgb4⟩
    have hr14 : RdS w4 (some ⟨g1, 0, none⟩) n ps := hr13.grown hgb4 (by have := (ho1.lt g1 rfl).2; omega)
    have hb04 : Below w.heap.size w w4 := hb03.grown hgb4 hb03.size (by intro j hj; cases hj; have := hb1.size; omega)
    clear hr13 ho3 hgb4
    have hr4 := RdS.of_owns ho4
    go_wp2_with fail
    refine (heldStringS_any _ n c2 1 w4 hr4 (by omega) (by omega) (by omega)).mono ?_
    rintro e w5 ⟨rfl, hb5⟩
    have hr15 := hr14.mono hb5
    have hr5 := hr4.mono hb5
    have hb05 : Below w.heap.size w w5 := hb04.trans (hb5.mono hb04.size)
    have hq1 : ((1 + (n : Int)) != (1 + (n : Int))) = false := by simp
    have hq2 : ¬ (1 + (n : Int)) < 0 := by omega
    clear hr14 hr4 ho4
    go_wp2_with fail
    refine (unhide HI w5 hs).mono ?_
    rintro e w6 ⟨g6, c6, rfl, ho6, hb6⟩
    have hr16 := hr15.mono hb6
    have hr6 := RdS.of_owns ho6
    have hr56 := hr5.mono hb6
    have hb06 : Below w.heap.size w w6 := hb05.trans (hb6.mono hb05.size)
    clear hr15 hr5 ho6
    go_wp2_with fail
    refine (eqStringS_same _ n c6 _ c1 ps w6 hr6 hr16 (by omega)).mono ?_
    rintro e w7 ⟨rfl, hb7⟩
    have hr57 := hr56.mono hb7
    have hb07 : Below w.heap.size w w7 := hb06.trans (hb7.mono hb06.size)
    clear hr16 hr6 hr56
    go_wp2_with fail
    refine (heldStringS_any _ n c2 1 w7 hr57 (by omega) (by omega) (by omega)).mono ?_
    rintro e w8 ⟨rfl, hb8⟩
    go_wp2
    go_ret
    exact ⟨rfl, hb07.trans (hb8.mono hb07.size)⟩
  · have hgt : (1048576 : Int) < (s.size : Int) := by omega
    go_enter Try.func3, Try.ntmps3
    go_wp2
    go_ret
    exact ⟨rfl, Below.refl _ _⟩

theorem parts_int (s : ByteArray) (n : Int) (hm : s.size ≤ maxLen) (hw : (Lit.int .u8 n).wf = true) (w : World) :
    Calls Try.prog 3 #[.string s, .int .u8 n] w fun e w' => e = .returned (.bool true) ∧ Below w.heap.size w w' := by
  have bd := bounds_u8 hw
  have e : n = ((UInt8.ofNat n.toNat).toNat : Int) := by
    rw [UInt8.toNat_ofNat']; omega
  rw [e]
  exact law_parts s _ w hm
end Go.Proofs.Ytljpiamkihhieam
