/- impl.TableOk and spec.TableOk, and the law. -/
import Derived.Test.YtlakbnpinennnaaGreatDoorTableOf
import Derived.Test.YtlakbnpinennnaaGreatDoorHeldTo
import Derived.Laws.Rows
namespace Go.Proofs.YtlakbnpinennnaaGreatDoor
open Go.RowKit
set_option linter.unusedVariables false
set_option linter.unusedSimpArgs false
set_option maxRecDepth 4000 in
theorem flagFacts {w : World} {g : Nat} {c0 c1 c2 c3 c4 c5 c6 c7 c8 c9 c10 c11 c12 c13 c14 c15 : Bool} (h : Blk w g (flc [c0, c1, c2, c3, c4, c5, c6, c7, c8, c9, c10, c11, c12, c13, c14, c15])) : w.cell? ⟨g, 0, none⟩ = some (.bool c0) ∧ w.cell? ⟨g, 1, none⟩ = some (.bool c1) ∧ w.cell? ⟨g, 2, none⟩ = some (.bool c2) ∧ w.cell? ⟨g, 3, none⟩ = some (.bool c3) ∧ w.cell? ⟨g, 4, none⟩ = some (.bool c4) ∧ w.cell? ⟨g, 5, none⟩ = some (.bool c5) ∧ w.cell? ⟨g, 6, none⟩ = some (.bool c6) ∧ w.cell? ⟨g, 7, none⟩ = some (.bool c7) ∧ w.cell? ⟨g, 8, none⟩ = some (.bool c8) ∧ w.cell? ⟨g, 9, none⟩ = some (.bool c9) ∧ w.cell? ⟨g, 10, none⟩ = some (.bool c10) ∧ w.cell? ⟨g, 11, none⟩ = some (.bool c11) ∧ w.cell? ⟨g, 12, none⟩ = some (.bool c12) ∧ w.cell? ⟨g, 13, none⟩ = some (.bool c13) ∧ w.cell? ⟨g, 14, none⟩ = some (.bool c14) ∧ w.cell? ⟨g, 15, none⟩ = some (.bool c15) :=
  ⟨(h 0 (by simp [flc])).1, (h 1 (by simp [flc])).1, (h 2 (by simp [flc])).1, (h 3 (by simp [flc])).1, (h 4 (by simp [flc])).1, (h 5 (by simp [flc])).1, (h 6 (by simp [flc])).1, (h 7 (by simp [flc])).1, (h 8 (by simp [flc])).1, (h 9 (by simp [flc])).1, (h 10 (by simp [flc])).1, (h 11 (by simp [flc])).1, (h 12 (by simp [flc])).1, (h 13 (by simp [flc])).1, (h 14 (by simp [flc])).1, (h 15 (by simp [flc])).1⟩
theorem load_yields {P : Program} {o : Oper} {a : Act} {w : World} {ty : TypeId} {x : Operand} {ad : Addr} {v : Value} (ho : o.op = .load ty x) (hx : a.eval x = .pointer (some ad)) (hl : (loadVar ty ad).run P w = .ok v w) : (execOp a.eval o).run P w = .ok (.value v) w := by
  unfold execOp
  simp only [ho, hx, Instr.loadAt, Instr.sureAddr, Sem.run_bind, Sem.run_pure, Result.andThen_ok, hl]
theorem flc_lit (c0 c1 c2 c3 c4 c5 c6 c7 c8 c9 c10 c11 c12 c13 c14 c15 : Bool) : (flc [c0, c1, c2, c3, c4, c5, c6, c7, c8, c9, c10, c11, c12, c13, c14, c15]).toArray = #[.bool c0, .bool c1, .bool c2, .bool c3, .bool c4, .bool c5, .bool c6, .bool c7, .bool c8, .bool c9, .bool c10, .bool c11, .bool c12, .bool c13, .bool c14, .bool c15] := rfl
theorem turnL_lit (c0 c1 c2 c3 c4 c5 c6 c7 c8 c9 c10 c11 c12 c13 c14 c15 : Bool) : turnL [c0, c1, c2, c3, c4, c5, c6, c7, c8, c9, c10, c11, c12, c13, c14, c15] = [c0, c4, c8, c12, c1, c5, c9, c13, c2, c6, c10, c14, c3, c7, c11, c15] := by simp [turnL, List.range, List.range.loop, fl]
theorem turned_lit (c0 c1 c2 c3 c4 c5 c6 c7 c8 c9 c10 c11 c12 c13 c14 c15 : Bool) (W : World) : Calls Tryz.prog 141 #[.agg #[.bool c0, .bool c1, .bool c2, .bool c3, .bool c4, .bool c5, .bool c6, .bool c7, .bool c8, .bool c9, .bool c10, .bool c11, .bool c12, .bool c13, .bool c14, .bool c15]] W fun e w' => e = .returned (.agg #[.bool c0, .bool c4, .bool c8, .bool c12, .bool c1, .bool c5, .bool c9, .bool c13, .bool c2, .bool c6, .bool c10, .bool c14, .bool c3, .bool c7, .bool c11, .bool c15]) ∧ Below W.heap.size W w' := by
  have h := turned_any [c0, c1, c2, c3, c4, c5, c6, c7, c8, c9, c10, c11, c12, c13, c14, c15] rfl W
  rw [turnL_lit, flc_lit, flc_lit] at h
  exact h
theorem itself_lit (c0 c1 c2 c3 c4 c5 c6 c7 c8 c9 c10 c11 c12 c13 c14 c15 : Bool) (m : Nat) (hm : m ≤ 4) (W : World) : Calls Tryz.prog 142 #[.agg #[.bool c0, .bool c1, .bool c2, .bool c3, .bool c4, .bool c5, .bool c6, .bool c7, .bool c8, .bool c9, .bool c10, .bool c11, .bool c12, .bool c13, .bool c14, .bool c15], .int .i64 (m : Int)] W fun e w' => e = .returned (.bool (selfB [c0, c1, c2, c3, c4, c5, c6, c7, c8, c9, c10, c11, c12, c13, c14, c15] m)) ∧ Below W.heap.size W w' := by
  have h := withItself_any [c0, c1, c2, c3, c4, c5, c6, c7, c8, c9, c10, c11, c12, c13, c14, c15] rfl m hm W
  rw [flc_lit] at h
  exact h
set_option maxHeartbeats 4000000 in
theorem tableOk_any (a : Option Addr) (n cp : Nat) (ps : List PairV) (c : Int) (w : World) (hr : RdR PairV.cells 2 w a n ps) (hn : n ≤ 1048600) :
    Calls Tryz.prog 115 #[.slice a n cp, .int .i64 c] w fun e w' => e = .returned (.bool (tableB ps c)) ∧ Below w.heap.size w w' := by
  cases hin : inB c 1 4
  case false =>
    have HT : Hid (tableB ps c = false) := table_out ps c hin
    go_enter Tryz.func115, Tryz.ntmps115
    go_wp2_with (first | (go_at_call 41; refine (within_any _ _ _ _).mono ?_; rintro e w' ⟨rfl, hw⟩; subst w'; rw [hin]) | fail)
    go_ret
    exact ⟨ret_bool (unhide HT).symm, Below.refl _ _⟩
  have hin2 := hin
  rw [inB_iff] at hin2
  obtain ⟨m, rfl⟩ := Int.eq_ofNat_of_zero_le (show 0 ≤ c by omega)
  have HTab := hide (table_flags ps m (by omega) (by omega))
  obtain ⟨c0, c1, c2, c3, c4, c5, c6, c7, c8, c9, c10, c11, c12, c13, c14, c15, hF⟩ := sixteen (flagsOf ps m) (flagsOf_len ps m)
  have HT := hide (fun w => tableOf_any a n cp ps m (by omega) (by omega) w)
  rw [hF, turnL_lit] at HTab
  rw [hF, flc_lit] at HT
  clear hF
  have HU := hide (turned_lit c0 c1 c2 c3 c4 c5 c6 c7 c8 c9 c10 c11 c12 c13 c14 c15)
  have HI := hide (itself_lit c0 c1 c2 c3 c4 c5 c6 c7 c8 c9 c10 c11 c12 c13 c14 c15 m (by omega))
  have HQ := HTab
  clear HTab
  generalize hss : sameF [c0, c1, c2, c3, c4, c5, c6, c7, c8, c9, c10, c11, c12, c13, c14, c15] [c0, c4, c8, c12, c1, c5, c9, c13, c2, c6, c10, c14, c3, c7, c11, c15] = ss at HQ
  have hEQ : ∀ W, (Op.equalIn 10000 170 (.agg #[.bool c0, .bool c1, .bool c2, .bool c3, .bool c4, .bool c5, .bool c6, .bool c7, .bool c8, .bool c9, .bool c10, .bool c11, .bool c12, .bool c13, .bool c14, .bool c15]) (.agg #[.bool c0, .bool c4, .bool c8, .bool c12, .bool c1, .bool c5, .bool c9, .bool c13, .bool c2, .bool c6, .bool c10, .bool c14, .bool c3, .bool c7, .bool c11, .bool c15])).run Tryz.prog W = .ok ss W := fun W => by rw [eq_table, hss]
  clear hss
  go_enter Tryz.func115, Tryz.ntmps115
  go_wp2_with (first | (go_at_call 41; refine (within_any _ _ _ _).mono ?_; rintro e w' ⟨rfl, hw⟩; subst w'; rw [hin]) | fail)
  refine ((unhide HT) w hr hn).mono ?_
  rintro e w1 ⟨rfl, hb1⟩
  have K1 : Hid (Blk (w1.alloc (.cells #[.bool c0, .bool c1, .bool c2, .bool c3, .bool c4, .bool c5, .bool c6, .bool c7, .bool c8, .bool c9, .bool c10, .bool c11, .bool c12, .bool c13, .bool c14, .bool c15] 170)) w1.heap.size (flc [c0, c1, c2, c3, c4, c5, c6, c7, c8, c9, c10, c11, c12, c13, c14, c15])) := Blk.allocAt (flc [c0, c1, c2, c3, c4, c5, c6, c7, c8, c9, c10, c11, c12, c13, c14, c15]) rfl
  have B1 : Hid (Below w.heap.size w (w1.alloc (.cells #[.bool c0, .bool c1, .bool c2, .bool c3, .bool c4, .bool c5, .bool c6, .bool c7, .bool c8, .bool c9, .bool c10, .bool c11, .bool c12, .bool c13, .bool c14, .bool c15] 170))) := hb1.alloc hb1.size _
  have z1 : w1.heap.size < (w1.alloc (.cells #[.bool c0, .bool c1, .bool c2, .bool c3, .bool c4, .bool c5, .bool c6, .bool c7, .bool c8, .bool c9, .bool c10, .bool c11, .bool c12, .bool c13, .bool c14, .bool c15] 170)).heap.size := by simp
  clear hb1 HT
  go_wp2_with fail
  have S0 : (w1.alloc (.cells #[.bool c0, .bool c1, .bool c2, .bool c3, .bool c4, .bool c5, .bool c6, .bool c7, .bool c8, .bool c9, .bool c10, .bool c11, .bool c12, .bool c13, .bool c14, .bool c15] 170)).drew.heap[w1.heap.size]? = some (.cells #[.bool c0, .bool c1, .bool c2, .bool c3, .bool c4, .bool c5, .bool c6, .bool c7, .bool c8, .bool c9, .bool c10, .bool c11, .bool c12, .bool c13, .bool c14, .bool c15] 170 (0, 0)) := heap_alloc_new w1 _
  have hAs : (#[.bool c0, .bool c1, .bool c2, .bool c3, .bool c4, .bool c5, .bool c6, .bool c7, .bool c8, .bool c9, .bool c10, .bool c11, .bool c12, .bool c13, .bool c14, .bool c15] : Array Value).size = 16 := rfl
  generalize w1.heap.size = P at K1 z1 S0 ⊢
  generalize w1.alloc (.cells #[.bool c0, .bool c1, .bool c2, .bool c3, .bool c4, .bool c5, .bool c6, .bool c7, .bool c8, .bool c9, .bool c10, .bool c11, .bool c12, .bool c13, .bool c14, .bool c15] 170) = W1 at K1 B1 z1 S0 ⊢
  clear K1
  generalize (#[.bool c0, .bool c4, .bool c8, .bool c12, .bool c1, .bool c5, .bool c9, .bool c13, .bool c2, .bool c6, .bool c10, .bool c14, .bool c3, .bool c7, .bool c11, .bool c15] : Array Value) = BB at HU hEQ ⊢
  generalize (#[.bool c0, .bool c1, .bool c2, .bool c3, .bool c4, .bool c5, .bool c6, .bool c7, .bool c8, .bool c9, .bool c10, .bool c11, .bool c12, .bool c13, .bool c14, .bool c15] : Array Value) = AA at HU HI hEQ S0 hAs ⊢
  have hLd : ∀ W : World, W.heap[P]? = some (.cells AA 170 (0, 0)) → (loadVar 170 ⟨P, 0, none⟩).run Tryz.prog W = .ok (.agg AA) W := fun W h => run_loadVar_row W P 170 170 AA (0, 0) _ h Tryz.underlying170 rfl (by rw [hAs]; kernel_rfl)
  refine wp_region_to (S := fun w' => w'.heap[P]? = some (.cells AA 170 (0, 0))) (T := []) (by kernel_rfl) S0 (fun hHeld => ?_)
  refine wpTo_take (i := 0) (v := .agg AA) rfl (by kernel_rfl) (by kernel_rfl) (by kernel_rfl) (by kernel_rfl) (by kernel_rfl) (fun _ _ _ h => h) (Or.inl ⟨by rfl, fun w hSw => load_yields rfl rfl (hLd w hSw)⟩) (by assumption) ?_
  try simp only [Act.put, List.getElem_toArray, List.getElem_cons_zero, List.getElem_cons_succ, List.setIfInBounds_toArray, List.set_cons_zero, List.set_cons_succ]
  refine wpTo_take (i := 1) (v := .agg AA) rfl (by kernel_rfl) (by kernel_rfl) (by kernel_rfl) (by kernel_rfl) (by kernel_rfl) (fun _ _ _ h => h) (Or.inl ⟨by rfl, fun w hSw => load_yields rfl rfl (hLd w hSw)⟩) (by assumption) ?_
  try simp only [Act.put, List.getElem_toArray, List.getElem_cons_zero, List.getElem_cons_succ, List.setIfInBounds_toArray, List.set_cons_zero, List.set_cons_succ]
  refine wpTo_ready (rs := [2]) (by kernel_rfl) (by simp) ?_
  refine AllTo.cons (o := _) rfl (fun K hK => ?_) AllTo.nil
  (try simp only [List.getElem_toArray, List.getElem_cons_zero, List.getElem_cons_succ])
  go_simp
  refine ((unhide HU) _).mono ?_
  rintro e w3 ⟨rfl, hb3⟩
  have B3 := hide ((unhide B1).drew.trans (hb3.mono (unhide B1).size))
  have hS3 : w3.heap[P]? = some (.cells AA 170 (0, 0)) := (hb3.block P z1).trans hHeld
  have z3 : P < w3.heap.size := Nat.lt_of_lt_of_le z1 hb3.size
  clear hb3 hHeld S0
  go_wp2_with fail
  refine hK.out _ _ (fun _ => hS3) ?_
  clear hK K
  try simp only [Act.put, List.getElem_toArray, List.getElem_cons_zero, List.getElem_cons_succ, List.setIfInBounds_toArray, List.set_cons_zero, List.set_cons_succ]
  cases ss
  case false =>
    refine wpTo_take (i := 3) (v := ?_) rfl (by kernel_rfl) (by kernel_rfl) (by kernel_rfl) (by kernel_rfl) (by kernel_rfl) (fun _ _ _ h => h) (Or.inl ⟨by rfl, ?_⟩) (by assumption) ?_
    rotate_left
    · intro w hSw
      go_simp <;> with_reducible rfl
    try simp only [Act.put, List.getElem_toArray, List.getElem_cons_zero, List.getElem_cons_succ, List.setIfInBounds_toArray, List.set_cons_zero, List.set_cons_succ]
    refine wpTo_take (i := 4) (v := ?_) rfl (by kernel_rfl) (by kernel_rfl) (by kernel_rfl) (by kernel_rfl) (by kernel_rfl) (fun _ _ _ h => h) (Or.inl ⟨by rfl, ?_⟩) (by assumption) ?_
    rotate_left
    · intro w hSw
      go_simp <;> with_reducible rfl
    try simp only [Act.put, List.getElem_toArray, List.getElem_cons_zero, List.getElem_cons_succ, List.setIfInBounds_toArray, List.set_cons_zero, List.set_cons_succ]
    refine wpTo_take (i := 5) (v := undef) rfl (by kernel_rfl) (by kernel_rfl) (by kernel_rfl) (by kernel_rfl) (by kernel_rfl) (fun _ _ _ h => h) (Or.inr ⟨by rfl, rfl⟩) (by assumption) ?_
    try simp only [Act.put, List.getElem_toArray, List.getElem_cons_zero, List.getElem_cons_succ, List.setIfInBounds_toArray, List.set_cons_zero, List.set_cons_succ]
    refine wpTo_take (i := 6) (v := undef) rfl (by kernel_rfl) (by kernel_rfl) (by kernel_rfl) (by kernel_rfl) (by kernel_rfl) (fun _ _ _ h => h) (Or.inr ⟨by rfl, rfl⟩) (by assumption) ?_
    try simp only [Act.put, List.getElem_toArray, List.getElem_cons_zero, List.getElem_cons_succ, List.setIfInBounds_toArray, List.set_cons_zero, List.set_cons_succ]
    refine wpTo_take (i := 7) (v := undef) rfl (by kernel_rfl) (by kernel_rfl) (by kernel_rfl) (by kernel_rfl) (by kernel_rfl) (fun _ _ _ h => h) (Or.inr ⟨by rfl, rfl⟩) (by assumption) ?_
    try simp only [Act.put, List.getElem_toArray, List.getElem_cons_zero, List.getElem_cons_succ, List.setIfInBounds_toArray, List.set_cons_zero, List.set_cons_succ]
    refine wpTo_take (i := 8) (v := ?_) rfl (by kernel_rfl) (by kernel_rfl) (by kernel_rfl) (by kernel_rfl) (by kernel_rfl) (fun _ _ _ h => h) (Or.inl ⟨by rfl, ?_⟩) (by assumption) ?_
    rotate_left
    · intro w hSw
      go_simp <;> with_reducible rfl
    try simp only [Act.put, List.getElem_toArray, List.getElem_cons_zero, List.getElem_cons_succ, List.setIfInBounds_toArray, List.set_cons_zero, List.set_cons_succ]
    refine wpTo_take (i := 9) (v := ?_) rfl (by kernel_rfl) (by kernel_rfl) (by kernel_rfl) (by kernel_rfl) (by kernel_rfl) (fun _ _ _ h => h) (Or.inl ⟨by rfl, ?_⟩) (by assumption) ?_
    rotate_left
    · intro w hSw
      go_simp <;> with_reducible rfl
    try simp only [Act.put, List.getElem_toArray, List.getElem_cons_zero, List.getElem_cons_succ, List.setIfInBounds_toArray, List.set_cons_zero, List.set_cons_succ]
    refine wpTo_done (by kernel_rfl) ?_ _
    go_wp2_with fail
    go_ret
    exact ⟨ret_bool (unhide HQ), unhide B3⟩
  case true =>
    refine wpTo_take (i := 3) (v := ?_) rfl (by kernel_rfl) (by kernel_rfl) (by kernel_rfl) (by kernel_rfl) (by kernel_rfl) (fun _ _ _ h => h) (Or.inl ⟨by rfl, ?_⟩) (by assumption) ?_
    rotate_left
    · intro w hSw
      go_simp <;> with_reducible rfl
    try simp only [Act.put, List.getElem_toArray, List.getElem_cons_zero, List.getElem_cons_succ, List.setIfInBounds_toArray, List.set_cons_zero, List.set_cons_succ]
    refine wpTo_take (i := 4) (v := ?_) rfl (by kernel_rfl) (by kernel_rfl) (by kernel_rfl) (by kernel_rfl) (by kernel_rfl) (fun _ _ _ h => h) (Or.inl ⟨by rfl, ?_⟩) (by assumption) ?_
    rotate_left
    · intro w hSw
      go_simp <;> with_reducible rfl
    try simp only [Act.put, List.getElem_toArray, List.getElem_cons_zero, List.getElem_cons_succ, List.setIfInBounds_toArray, List.set_cons_zero, List.set_cons_succ]
    refine wpTo_take (i := 5) (v := .agg AA) rfl (by kernel_rfl) (by kernel_rfl) (by kernel_rfl) (by kernel_rfl) (by kernel_rfl) (fun _ _ _ h => h) (Or.inl ⟨by rfl, fun w hSw => load_yields rfl rfl (hLd w hSw)⟩) (by assumption) ?_
    try simp only [Act.put, List.getElem_toArray, List.getElem_cons_zero, List.getElem_cons_succ, List.setIfInBounds_toArray, List.set_cons_zero, List.set_cons_succ]
    refine wpTo_take (i := 6) (v := ?_) rfl (by kernel_rfl) (by kernel_rfl) (by kernel_rfl) (by kernel_rfl) (by kernel_rfl) (fun _ _ _ h => h) (Or.inl ⟨by rfl, ?_⟩) (by assumption) ?_
    rotate_left
    · intro w hSw
      go_simp <;> with_reducible rfl
    try simp only [Act.put, List.getElem_toArray, List.getElem_cons_zero, List.getElem_cons_succ, List.setIfInBounds_toArray, List.set_cons_zero, List.set_cons_succ]
    refine wpTo_ready (rs := [7]) (by kernel_rfl) (by simp) ?_
    refine AllTo.cons (o := _) rfl (fun K hK => ?_) AllTo.nil
    (try simp only [List.getElem_toArray, List.getElem_cons_zero, List.getElem_cons_succ])
    go_simp
    refine ((unhide HI) _).mono ?_
    rintro e w4 ⟨rfl, hb4⟩
    have B4 := hide ((unhide B3).trans (hb4.mono (unhide B3).size))
    have hS4 : w4.heap[P]? = some (.cells AA 170 (0, 0)) := (hb4.block P z3).trans hS3
    clear hb4
    go_wp2_with fail
    refine hK.out _ _ (fun _ => hS4) ?_
    clear hK K
    try simp only [Act.put, List.getElem_toArray, List.getElem_cons_zero, List.getElem_cons_succ, List.setIfInBounds_toArray, List.set_cons_zero, List.set_cons_succ]
    refine wpTo_take (i := 8) (v := ?_) rfl (by kernel_rfl) (by kernel_rfl) (by kernel_rfl) (by kernel_rfl) (by kernel_rfl) (fun _ _ _ h => h) (Or.inl ⟨by rfl, ?_⟩) (by assumption) ?_
    rotate_left
    · intro w hSw
      go_simp <;> with_reducible rfl
    try simp only [Act.put, List.getElem_toArray, List.getElem_cons_zero, List.getElem_cons_succ, List.setIfInBounds_toArray, List.set_cons_zero, List.set_cons_succ]
    refine wpTo_take (i := 9) (v := ?_) rfl (by kernel_rfl) (by kernel_rfl) (by kernel_rfl) (by kernel_rfl) (by kernel_rfl) (fun _ _ _ h => h) (Or.inl ⟨by rfl, ?_⟩) (by assumption) ?_
    rotate_left
    · intro w hSw
      go_simp <;> with_reducible rfl
    try simp only [Act.put, List.getElem_toArray, List.getElem_cons_zero, List.getElem_cons_succ, List.setIfInBounds_toArray, List.set_cons_zero, List.set_cons_succ]
    refine wpTo_done (by kernel_rfl) ?_ _
    go_wp2_with fail
    go_ret
    exact ⟨ret_bool (unhide HQ), unhide B4⟩
theorem tableRow_miss (ps : List PairV) (c : Nat) (a b : Nat) (hc : c ≤ 4) (ha : a < c) (hb : b < c) (h : ((decide (a = b) && ! besB ps a a) || (besB ps a b != besB ps b a)) = true) : tableB ps (c : Int) = false := by
  unfold tableB
  rw [Int.toNat_natCast]
  have : (List.range c).all (tableRow ps c) = false := by
    refine range_all_miss _ c a ha ?_
    unfold tableRow
    refine range_all_miss _ c b hb ?_
    rw [h]
    rfl
  rw [this, Bool.and_false]
theorem tableB_of (ps : List PairV) (c : Nat) (h1 : 1 ≤ c) (hc : c ≤ 4) (h : (List.range c).all (tableRow ps c) = true) : tableB ps (c : Int) = true := by
  unfold tableB
  rw [Int.toNat_natCast, h]
  simp
  omega
set_option maxHeartbeats 4000000 in
theorem specTableOk_any (a : Option Addr) (n cp : Nat) (ps : List PairV) (c : Int) (w : World) (hr : RdR PairV.cells 2 w a n ps) (hn : n ≤ 1048600) :
    Calls Tryz.prog 47 #[.slice a n cp, .int .i64 c] w fun e w' => e = .returned (.bool (tableB ps c)) ∧ w' = w := by
  cases hin : inB c 1 4
  case false =>
    have HT : Hid (tableB ps c = false) := table_out ps c hin
    go_enter Tryz.func47, Tryz.ntmps47
    go_wp2_with (first | (go_at_call 67; refine (l1In_any _ _ _ _).mono ?_; rintro e w' ⟨rfl, hw⟩; subst w'; rw [hin]) | fail)
    go_ret
    exact ⟨ret_bool (unhide HT).symm, rfl⟩
  have hin2 := hin
  rw [inB_iff] at hin2
  obtain ⟨m, rfl⟩ := Int.eq_ofNat_of_zero_le (show 0 ≤ c by omega)
  go_enter Tryz.func47, Tryz.ntmps47
  go_wp2_with (first | (go_at_call 67; refine (l1In_any _ _ _ _).mono ?_; rintro e w' ⟨rfl, hw⟩; subst w'; rw [hin]) | fail)
  go_loop [5] (fun i => ∃ k : Nat, k ≤ m ∧ i = .int .i64 k ∧ (List.range k).all (tableRow ps m) = true) (fun i => m - (intOf i).toNat)
  case atStart => exact ⟨0, Nat.zero_le _, rfl, rfl⟩
  case round =>
    obtain ⟨i, hi, rfl, hd⟩ := hrel
    have HD := hide hd
    clear hd
    by_cases hlt : i < m
    case neg =>
      obtain rfl : i = m := by omega
      have HE := hide (tableB_of ps i (by omega) (by omega) (unhide HD))
      go_wp2_with fail
      go_ret
      exact ⟨ret_bool (unhide HE).symm, rfl⟩
    go_wp2_with fail
    go_loop [6] (fun j => ∃ k : Nat, k ≤ m ∧ j = .int .i64 k ∧ (List.range k).all (fun b => ! ((decide (i = b) && ! besB ps i i) || (besB ps i b != besB ps b i))) = true) (fun i => m - (intOf i).toNat)
    case atStart => exact ⟨0, Nat.zero_le _, rfl, rfl⟩
    case round =>
      obtain ⟨j, hj, rfl, hd⟩ := hrel
      have HD2 := hide hd
      clear hd
      by_cases hlt2 : j < m
      case neg =>
        obtain rfl : j = m := by omega
        have HS := hide (range_all_step (tableRow ps j) i)
        have HE : Hid (tableRow ps j i = true) := unhide HD2
        go_wp2_with fail
        go_round
        case rel => exact ⟨i + 1, by omega, by go_num, by rw [unhide HS, unhide HD, unhide HE]; rfl⟩
        case measure => simp [intOf]; omega
      have HM := hide (tableRow_miss ps m i j (by omega) hlt hlt2)
      have HS := hide (range_all_step (fun b => ! ((decide (i = b) && ! besB ps i i) || (besB ps i b != besB ps b i))) j)
      have HC := hide (fun x y => specBeside_any a n cp ps x y w hr hn)
      by_cases hij : i = j
      · subst hij
        have hee : ((i : Int) == (i : Int)) = true := by simp
        obtain ⟨x, hx⟩ : ∃ x, besB ps (i : Int) (i : Int) = x := ⟨_, rfl⟩
        cases x
        · have HR : Hid (tableB ps (m : Int) = false) := (unhide HM) (by rw [hx]; simp)
          go_wp2_with (first | (go_at_call 81; refine ((unhide HC) _ _).mono ?_; rintro e w' ⟨rfl, hw⟩; subst w'; rw [hx]) | fail)
          go_ret
          exact ⟨ret_bool (unhide HR).symm, rfl⟩
        · have HR : Hid ((List.range (i + 1)).all (fun b => ! ((decide (i = b) && ! besB ps i i) || (besB ps i b != besB ps b i))) = true) := hide (by rw [unhide HS, unhide HD2, hx]; simp)
          go_wp2_with (first | (go_at_call 81; refine ((unhide HC) _ _).mono ?_; rintro e w' ⟨rfl, hw⟩; subst w'; rw [hx]) | fail)
          go_round
          case rel => exact ⟨i + 1, by omega, by go_num, unhide HR⟩
          case measure => simp [intOf]; omega
      · have hee : ((i : Int) == (j : Int)) = false := by rw [beq_eq_false_iff_ne]; omega
        obtain ⟨x, hx⟩ : ∃ x, besB ps (i : Int) (j : Int) = x := ⟨_, rfl⟩
        obtain ⟨y, hy⟩ : ∃ y, besB ps (j : Int) (i : Int) = y := ⟨_, rfl⟩
        cases x <;> cases y
        case false.true | true.false =>
          have HR : Hid (tableB ps (m : Int) = false) := (unhide HM) (by rw [hx, hy]; simp)
          go_wp2_with (first | (go_at_call 81; refine ((unhide HC) _ _).mono ?_; rintro e w' ⟨rfl, hw⟩; subst w'; first | rw [hx] | rw [hy]) | fail)
          go_ret
          exact ⟨ret_bool (unhide HR).symm, rfl⟩
        all_goals
          have HR : Hid ((List.range (j + 1)).all (fun b => ! ((decide (i = b) && ! besB ps i i) || (besB ps i b != besB ps b i))) = true) := hide (by rw [unhide HS, unhide HD2, hx, hy]; simp [hij])
          go_wp2_with (first | (go_at_call 81; refine ((unhide HC) _ _).mono ?_; rintro e w' ⟨rfl, hw⟩; subst w'; first | rw [hx] | rw [hy]) | fail)
          go_round
          case rel => exact ⟨j + 1, by omega, by go_num, unhide HR⟩
          case measure => simp [intOf]; omega
end Go.Proofs.YtlakbnpinennnaaGreatDoor
