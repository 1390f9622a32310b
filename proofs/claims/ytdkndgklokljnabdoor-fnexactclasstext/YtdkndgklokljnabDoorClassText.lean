/- ClassText of model and program; the law, walked. -/
import Derived.Test.YtdkndgklokljnabDoorVol
import Derived.Test.YtdkndgklokljnabDoorBw
import Derived.Lib.LaidTab
import Derived.LaidMore
namespace Go.Proofs.YtdkndgklokljnabDoor
open Go.ChangeShapes Go.WideShapes Go.ChangeAt Go.RowKit
set_option linter.unusedVariables false

def clWord : Nat → List UInt8
  | 0 => [111, 107]
  | 1 => [116, 101, 120, 116]
  | 2 => [98, 111, 117, 110, 100, 115]
  | 3 => [110, 97, 109, 101, 115]
  | 4 => [116, 97, 98, 108, 101]
  | 5 => [117, 110, 105, 116]
  | 6 => [112, 97, 108, 108, 101, 116]
  | _ => []
def clText (k : Int) : List UInt8 := if 0 ≤ k ∧ k ≤ 6 then clWord k.toNat else []
structure TextsIs (w : World) : Prop where
  word : ∀ k : Nat, k ≤ 6 → w.cell? ⟨0, k, none⟩ = some (.string ⟨(clWord k).toArray⟩)
theorem TextsIs.lt {w : World} (h : TextsIs w) : 0 < w.heap.size := World.block_lt_of_cell? w _ (h.word 0 (by omega))
theorem TextsIs.later {w w' : World} (h : TextsIs w) (hb : Below w.heap.size w w') : TextsIs w' :=
  ⟨fun k hk => (hb.cell (p := ⟨_, _, none⟩) h.lt).trans (h.word k hk)⟩

theorem gTexts : Tryd.prog.globalNamed "loop.example/g00489/impl.classTexts" = some 0 := by kernel_rfl
theorem gTextsType : (Tryd.prog.globals[0]?).map (·.type) = some 26 := by kernel_rfl
theorem textsCells : Tryd.prog.cellsOf 26 = 7 := by kernel_rfl
theorem strCellsT : Tryd.prog.cellsOf 9 = 1 := by kernel_rfl
theorem texts_of {W : World} {rest : List (String × DataW Unit)} (h : laidMet Tryd.prog (("loop.example/g00489/impl.classTexts", Rows.laid_loop_example_g00489_impl_classTexts) :: rest) W) : TextsIs W := by
  obtain ⟨ps, ⟨g', t', cs, fuel, p, q, hg', ht', hvar, hd, _, _⟩, _⟩ := h
  obtain rfl := Option.some.inj (gTexts.symm.trans hg')
  obtain rfl := Option.some.inj (gTextsType.symm.trans ht')
  have hcell := World.var?_cell gTexts hvar
  cases fuel with
  | zero => simp [DataW.trod] at hd
  | succ fuel =>
    simp only [DataW.trod, Tryd.underlying26, textsCells, strCellsT] at hd
    split at hd
    · obtain ⟨xs, hm, hx⟩ := Option.map_eq_some_iff.1 hd
      have hxs : xs.map (·.1) = [.lit (.string (clWord 0)), .lit (.string (clWord 1)), .lit (.string (clWord 2)), .lit (.string (clWord 3)), .lit (.string (clWord 4)), .lit (.string (clWord 5)), .lit (.string (clWord 6))] := by
        exact DataW.agg.inj (congrArg Prod.fst hx)
      have one : ∀ k, k ≤ 6 → cs[k]? = some (.string ⟨(clWord k).toArray⟩) := by
        intro k hk
        have hk7 : (List.range 7)[k]? = some k := by rw [List.getElem?_range (by omega)]
        obtain ⟨b, hb, hf⟩ := Lib.mapM_at hm k k hk7
        have hb1 : (xs.map (·.1))[k]? = some b.1 := by simp [hb]
        rw [hxs] at hb1
        obtain ⟨b1, b2⟩ := b
        dsimp only at hb1
        have key : b1 = .lit (.string (clWord k)) := by
          match k, hk, hb1 with
          | 0, _, e => exact (Option.some.inj e).symm
          | 1, _, e => exact (Option.some.inj e).symm
          | 2, _, e => exact (Option.some.inj e).symm
          | 3, _, e => exact (Option.some.inj e).symm
          | 4, _, e => exact (Option.some.inj e).symm
          | 5, _, e => exact (Option.some.inj e).symm
          | 6, _, e => exact (Option.some.inj e).symm
        subst key
        obtain ⟨s', c0, d0, _⟩ := DataW.trod_string Tryd.underlying9 hf
        have e0 := Lit.string.inj (DataW.lit.inj (congrArg Prod.fst d0))
        rw [e0]
        have g0 := congrArg (·[0]?) c0
        simpa [List.getElem?_take, List.getElem?_drop] using g0
      exact ⟨fun k hk => (hcell k).trans (one k hk)⟩
    · cases hd

theorem seven {k : Int} (h : 0 ≤ k ∧ k ≤ 6) : k = 0 ∨ k = 1 ∨ k = 2 ∨ k = 3 ∨ k = 4 ∨ k = 5 ∨ k = 6 := by omega
theorem ret_str {a b : List UInt8} (h : a = b) : Ending.returned (.string ⟨a.toArray⟩) = .returned (.string ⟨b.toArray⟩) := by rw [h]
set_option maxHeartbeats 1600000 in
theorem classText_any (k : Int) (w : World) (h : TextsIs w) : Calls Tryd.prog 5 #[.int .i64 k] w fun e w' => e = .returned (.string ⟨(clText k).toArray⟩) ∧ w' = w := by
  cases hin : inB k 0 6
  · have hn : ¬ (0 ≤ k ∧ k ≤ 6) := by intro hh; have := inB_iff.2 hh; rw [hin] at this; cases this
    have HE : Hid (clText k = []) := by unfold clText Hid; rw [if_neg hn]
    clear hn
    go_enter Tryd.func5, Tryd.ntmps5
    go_wp2_with (go_at_call 7; refine (within_any _ _ _ _).mono ?_; rintro e w' ⟨rfl, hw⟩; subst w'; rw [hin])
    go_ret
    exact ⟨ret_str (unhide HE).symm, rfl⟩
  · have hk := inB_iff.1 hin
    obtain ⟨n, rfl⟩ := Int.eq_ofNat_of_zero_le hk.1
    have HE : Hid (clText (n : Int) = clWord n) := by unfold clText Hid; rw [if_pos hk]; rfl
    have hc := h.word n (by omega)
    have h6 : (n : Int) < 7 := by omega
    have h0 : (0 : Int) ≤ (n : Int) := by omega
    clear hk h
    go_enter Tryd.func5, Tryd.ntmps5
    go_wp2_with (go_at_call 7; refine (within_any _ _ _ _).mono ?_; rintro e w' ⟨rfl, hw⟩; subst w'; rw [hin])
    go_ret
    exact ⟨ret_str (unhide HE).symm, rfl⟩
set_option maxHeartbeats 1600000 in
theorem specClassText_any (k : Int) (w : World) : Calls Tryd.prog 4 #[.int .i64 k] w fun e w' => e = .returned (.string ⟨(clText k).toArray⟩) ∧ Below w.heap.size w w' := by
  cases hin : inB k 0 6
  · have hn : ¬ (0 ≤ k ∧ k ≤ 6) := by intro hh; have := inB_iff.2 hh; rw [hin] at this; cases this
    have HE : Hid (clText k = []) := by unfold clText Hid; rw [if_neg hn]
    clear hn
    go_enter Tryd.func4, Tryd.ntmps4
    go_wp2_with (go_at_call 6; refine (l1In_any _ _ _ _).mono ?_; rintro e w' ⟨rfl, hw⟩; subst w'; rw [hin])
    go_ret
    exact ⟨ret_str (unhide HE).symm, (Below.refl _ _).alloc (Nat.le_refl _) _⟩
  · have hk := inB_iff.1 hin
    obtain rfl | rfl | rfl | rfl | rfl | rfl | rfl := seven hk
    all_goals
      clear hk
      go_enter Tryd.func4, Tryd.ntmps4
      go_wp2_with (go_at_call 6; refine (l1In_any _ _ _ _).mono ?_; rintro e w' ⟨rfl, hw⟩; subst w'; rw [hin])
      go_ret
      exact ⟨rfl, (Below.refl _ _).alloc (Nat.le_refl _) _⟩
set_option maxHeartbeats 1600000 in
theorem law_classText (k : Int) (w : World) (h : TextsIs w) : Calls Tryd.prog 3 #[.int .i64 k] w fun e w' => e = .returned (.bool true) ∧ Below w.heap.size w w' := by
  have HT := hide h
  clear h
  go_enter Tryd.func3, Tryd.ntmps3
  go_wp2_with fail
  refine (specClassText_any _ _).mono ?_
  rintro e w1 ⟨rfl, hb⟩
  have HB := hide hb
  clear hb
  go_wp2_with fail
  refine (classText_any _ _ ((unhide HT).later (unhide HB))).mono ?_
  rintro e w2 ⟨rfl, hw⟩
  subst w2
  go_wp2
  go_ret
  exact ⟨rfl, unhide HB⟩
end Go.Proofs.YtdkndgklokljnabDoor
