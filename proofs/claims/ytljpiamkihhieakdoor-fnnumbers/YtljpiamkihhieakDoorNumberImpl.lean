/- The program's Number at every text, where the library's variables lie as they are laid. -/
import Derived.Test.YtljpiamkihhieakDoorNumber
import Derived.Test.YtljpiamkihhieakDoorDigitsImpl
import Derived.Defers
import Derived.Recover
import Derived.Laws.Pointers
import Derived.Lib.AtoiErrMem
import Derived.WalkLawsBesides
namespace Go.Proofs.YtljpiamkihhieakDoor
open Go.RowKit

theorem gSyn : Tryd.prog.globalNamed "strconv.ErrSyntax" = some 1 := by kernel_rfl
theorem gRan : Tryd.prog.globalNamed "strconv.ErrRange" = some 2 := by kernel_rfl

/-- The library's three variables lie as they are laid. -/
def LibOk (w : World) : Prop :=
  Lib.TabIs Tryd.prog w "internal/strconv.uint64pow10" .u64 Lib.pow10Tab ∧ (∃ tp p, w.var? Tryd.prog "strconv.ErrSyntax" = some #[.iface tp p]) ∧ (∃ tp p, w.var? Tryd.prog "strconv.ErrRange" = some #[.iface tp p])

theorem LibOk.later {w w' : World} (h : LibOk w) (hb : Below w.heap.size w w') : LibOk w' := by
  obtain ⟨h1, ⟨t2, p2, h2⟩, ⟨t3, p3, h3⟩⟩ := h
  refine ⟨tab_later hb (tab_lt h1) h1, ⟨t2, p2, var?_below hb gSyn ?_ h2⟩, ⟨t3, p3, var?_below hb gRan ?_ h3⟩⟩
  · exact World.block_lt_of_cell? w ⟨_, 0, none⟩ (by have h0 := World.var?_cell gSyn h2 0; simpa using h0)
  · exact World.block_lt_of_cell? w ⟨_, 0, none⟩ (by have h0 := World.var?_cell gRan h3 0; simpa using h0)

set_option maxHeartbeats 800000 in
theorem must_yes (s : ByteArray) (m : Nat) (w : World) (hs : s.size ≤ 1048576) (hL : LibOk w) (hn : numOf s.data.toList = some m) :
    Calls Tryd.prog 18 #[.string s] w fun e w' => e = .returned (.int .i64 (m : Int)) ∧ Below w.heap.size w w' := by
  obtain ⟨hm, hl, _⟩ := numOf_some hn
  have ha := atoi_of hn
  have HA : Hid (Lib.atoiAll s.data.toList = .ok (m : Int)) := ha
  have HI : Hid ((⟨(Lib.itoa (m : Int)).toArray⟩ : ByteArray) = s) := by
    rw [Hid, str_eq_iff, Lib.itoa, if_neg (by omega), Int.toNat_natCast, hl]
  have HL : Hid (LibOk w) := hL
  clear hn hl ha hL
  go_enter Tryd.func18, Tryd.ntmps18
  go_wp2_with fail
  refine (Tryd.strconv_Atoi_ok s (by omega) (m : Int) HA.out w).mono ?_
  rintro e w1 ⟨rfl, hw1⟩
  have hb1 : Below w.heap.size w w1 := by
    rcases hw1 with rfl | ⟨t, rfl⟩
    · exact Below.refl _ _
    · exact Lib.bytesWorld_below _ _ _
  have HL1 : Hid (LibOk w1) := HL.out.later hb1
  clear hw1
  go_wp2_with fail
  refine (implDigits_any (m : Int) w1 (by omega) (by omega) HL1.out.1).mono ?_
  rintro e w2 ⟨rfl, hb2⟩
  rw [HI.out]
  go_wp2
  go_ret
  exact ⟨rfl, hb1.trans (hb2.mono hb1.size)⟩

set_option maxHeartbeats 800000 in
/-- mustNumber panics where the text is no number. -/
theorem must_no (s : ByteArray) (w : World) (hs : s.size ≤ 1048576) (hL : LibOk w) (hn : numOf s.data.toList = none) :
    Calls Tryd.prog 18 #[.string s] w fun e w' => e = .panicked [noNum] ∧ Below w.heap.size w w' := by
  have HL : Hid (LibOk w) := hL
  have HN : Hid (numOf s.data.toList = none) := hn
  clear hn hL
  cases ha : Lib.atoiAll s.data.toList with
  | «syntax» =>
    have HA : Hid (Lib.atoiAll s.data.toList = .«syntax») := ha
    clear ha
    obtain ⟨tp, p, hv⟩ := HL.out.2.1
    have HV : Hid (w.var? Tryd.prog "strconv.ErrSyntax" = some #[.iface tp p]) := hv
    clear hv
    go_enter Tryd.func18, Tryd.ntmps18
    go_wp2_with fail
    refine (Tryd.strconv_Atoi_syntax_var s (by omega) HA.out tp p w HV.out).mono ?_
    rintro e w1 ⟨N, rfl, _, _, hb1⟩
    go_wp2
    exact ⟨rfl, rfl, hb1⟩
  | range =>
    have HA : Hid (Lib.atoiAll s.data.toList = .range) := ha
    clear ha
    obtain ⟨tp, p, hv⟩ := HL.out.2.2
    have HV : Hid (w.var? Tryd.prog "strconv.ErrRange" = some #[.iface tp p]) := hv
    clear hv
    go_enter Tryd.func18, Tryd.ntmps18
    go_wp2_with fail
    refine (Tryd.strconv_Atoi_range_var s (by omega) HA.out tp p w HV.out).mono ?_
    generalize Lib.atoiSat s.data.toList = sat
    rintro e w1 ⟨N, rfl, _, _, hb1⟩
    go_wp2
    exact ⟨rfl, rfl, hb1⟩
  | ok v =>
    have hbd := Lib.atoiAll_bounds ha
    have HA : Hid (Lib.atoiAll s.data.toList = .ok v) := ha
    clear ha
    have HQ : Hid (0 ≤ v → v ≤ 999999 → ((⟨(Lib.itoa v).toArray⟩ : ByteArray).toList == s.toList) = false) := by
      intro h0 h1
      rw [ByteArray.toList_eq, ByteArray.toList_eq, beq_eq_false_iff_ne]
      intro h
      have := numOf_of_atoi h0 h1 h
      rw [HN.out] at this
      cases this
    rcases (show v < 0 ∨ 999999 < v ∨ (0 ≤ v ∧ v ≤ 999999) from by omega) with h | h | ⟨h, h'⟩
    · go_enter Tryd.func18, Tryd.ntmps18
      go_wp2_with fail
      refine (Tryd.strconv_Atoi_ok s (by omega) v HA.out w).mono ?_
      rintro e w1 ⟨rfl, hw1⟩
      have hb1 : Below w.heap.size w w1 := by
        rcases hw1 with rfl | ⟨t, rfl⟩
        · exact Below.refl _ _
        · exact Lib.bytesWorld_below _ _ _
      clear hw1
      go_wp2
      exact ⟨rfl, rfl, hb1⟩
    · go_enter Tryd.func18, Tryd.ntmps18
      go_wp2_with fail
      refine (Tryd.strconv_Atoi_ok s (by omega) v HA.out w).mono ?_
      rintro e w1 ⟨rfl, hw1⟩
      have hb1 : Below w.heap.size w w1 := by
        rcases hw1 with rfl | ⟨t, rfl⟩
        · exact Below.refl _ _
        · exact Lib.bytesWorld_below _ _ _
      clear hw1
      go_wp2
      exact ⟨rfl, rfl, hb1⟩
    · have hq := HQ.out h h'
      go_enter Tryd.func18, Tryd.ntmps18
      go_wp2_with fail
      refine (Tryd.strconv_Atoi_ok s (by omega) v HA.out w).mono ?_
      rintro e w1 ⟨rfl, hw1⟩
      have hb1 : Below w.heap.size w w1 := by
        rcases hw1 with rfl | ⟨t, rfl⟩
        · exact Below.refl _ _
        · exact Lib.bytesWorld_below _ _ _
      have HL1 : Hid (LibOk w1) := HL.out.later hb1
      clear hw1
      go_wp2_with fail
      refine (implDigits_any v w1 (by omega) (by omega) HL1.out.1).mono ?_
      rintro e w2 ⟨rfl, hb2⟩
      generalize (⟨(Lib.itoa v).toArray⟩ : ByteArray) = t at *
      go_wp2
      exact ⟨rfl, rfl, hb1.trans (hb2.mono hb1.size)⟩

/-- The deferred function where the frame panics with mustNumber's panic. -/
theorem catch_panicking (p q : Addr) (x : Int) (y : Bool) (u : TypeId) (pv : Value) (older : List PanicEntry) (w : World) (hc : w.cell? p = some (.int .i64 x)) (hz : w.frozen? p = false) (hc' : w.cell? q = some (.bool y)) (hz' : w.frozen? q = false) (hpq : p.block ≠ q.block) :
    CallsD Tryd.prog 17 #[.pointer (some p), .pointer (some q)] (.panicking ({ v := .iface u pv, recovered := false } :: older)) w fun e u' w' =>
      e = .returned (.tuple #[]) ∧ u' = .panicking ({ v := .iface u pv, recovered := true } :: older) ∧ w' = (w.setCell p (.int .i64 0)).setCell q (.bool false) := by
  have hk : (w.setCell p (.int .i64 0)).cell? q = some (.bool y) := by
    rw [World.cell?_of_block (Below.heap_setCell w p _ q.block (fun e => hpq e.symm))]; exact hc'
  have hk' : (w.setCell p (.int .i64 0)).frozen? q = false := by
    rw [World.frozen?_of_block (Below.heap_setCell w p _ q.block (fun e => hpq e.symm))]; exact hz'
  refine callsD_of_wpS Tryd.func17 rfl fun c₀ cs hu => ?_
  apply wpS_seq
  apply wpS_region
  simp [wpOpsS, go_sem, recoverD, hu, Tryd.ntmps17, Exit.thenS]
  refine wpS_cond (t := true) (by simp [Act.eval, Array.replicate]) ?_
  simp only [if_true]
  apply wpS_region
  simp [wpOpsS, go_sem, hc, hz, hk, hk', bodyPostS, results, Tryd.results17]

theorem catch_idle (p q : Addr) (w : World) :
    CallsD Tryd.prog 17 #[.pointer (some p), .pointer (some q)] .returning w fun e u' w' => e = .returned (.tuple #[]) ∧ u' = .returning ∧ w' = w := by
  refine callsD_of_wpS Tryd.func17 rfl fun c₀ cs hu => ?_
  apply wpS_seq
  apply wpS_region
  simp [wpOpsS, go_sem, recoverD, hu, Tryd.ntmps17, Exit.thenS]
  refine wpS_cond (t := false) (by simp [Act.eval, Array.replicate]) ?_
  simp only [Bool.false_eq_true, if_false]
  refine wpS_of_wp (wp_skip ?_)
  cases c₀
  simp_all [bodyPostS, results, Tryd.results17]
end Go.Proofs.YtljpiamkihhieakDoor
