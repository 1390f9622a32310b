/- The model's shelf with a box more. -/
import Derived.Test.YtcblpoeeembniaaShelfPlain
import Derived.Test.YtcblpoeeembniaaBw
import Derived.Test.YtcblpoeeembniaaAppendSome
import Derived.Test.YtcblpoeeembniaaInvR
import Derived.Laws.AppendOwnNone
import Derived.Deep.DeepMust
import Derived.Deep.DeepCutAuto
import Derived.Deep.RegionHeld3
namespace Go.Proofs.Ytcblpoeeembniaa
open Go Go.RowKit
set_option linter.unusedVariables false
set_option linter.unusedSimpArgs false
theorem step_append_nil {P : Program} (w : World) {ops : Array Oper} {o : Oper} {a : Act} {K : Act → World → Prop} {Q : Exit → Act → World → Prop} {E : Prop} (hgd : o.guard = none) (s x : Operand) (t : TypeId)
 (ho : o.op = .call { callee := .builtin .append, args := #[s, x], argTypes := #[t, t] })
 (base : Nat) (e : TypeId) (i : TypeInfo) (size : Nat) (ht : P.underlying t = some (.slice e)) (hi : P.info? e = some i)
 (v : Value) (n : Nat) (xs : List Value) (hs : a.eval s = v) (hown : w.ownsRow base e 1 v n xs) (hx : a.eval x = .slice none 0 0)
 (h : K (a.put o.dst v) w) : if Region.wanted o (yielded ops a.tmps) = true then Oper.wp P o a w K Q else E := by
 have hw : Region.wanted o (yielded ops a.tmps) = true := by simp [Region.wanted, hgd]
 rw [if_pos hw]
 have hrun := run_append_owned_none (P := P) (w := w) base t o.type e i 1 ht hi v n xs hown
 unfold Oper.wp
 simp [execOp, ho, resolve, invoke, builtin, hs, hx, hrun, Result.andThen]
 exact h
theorem l1Max_any (a b : Int) (w : World) :
 Calls Try.prog 59 #[.int .i64 a, .int .i64 b] w fun e w' => e = .returned (.int .i64 (mx a b)) ∧ w' = w := by
 by_cases h : b < a
 · rw [show mx a b = a from if_neg (by omega)]
   go_enter Try.func59, Try.ntmps59
   go_wp2
   go_ret
   exact ⟨rfl, rfl⟩
 · rw [show mx a b = b from by unfold mx; split <;> omega]
   go_enter Try.func59, Try.ntmps59
   go_wp2
   go_ret
   exact ⟨rfl, rfl⟩
set_option maxRecDepth 100000 in
set_option maxHeartbeats 4000000 in
theorem l10Add_any (rg c : Nat) (us : List Int) (i : Int) (sw sd sh sg bw bd bh bg : Int) (w : World) (hu : Rd w (some ⟨rg, 0, none⟩) us.length us) (hn : us.length ≤ 1048576) (o0 : 0 ≤ sw) (o1 : sw ≤ 2000) (o2 : 0 ≤ sg) (o3 : sg ≤ 100000) (o4 : 0 ≤ bw) (o5 : bw ≤ 2000) (o6 : 0 ≤ bg) (o7 : bg ≤ 100000) :
 Calls Try.prog 43 #[.agg #[.slice (some ⟨rg, 0, none⟩) us.length c, .int .i64 sw, .int .i64 sd, .int .i64 sh, .int .i64 sg], .int .i64 i, .agg #[.int .i64 bw, .int .i64 bd, .int .i64 bh, .int .i64 bg]] w fun e w' => ∃ g cap, e = .returned (.agg #[.slice (some ⟨g, 0, none⟩) (us.length + 1) cap, .int .i64 (sw + bw), .int .i64 (mx sd bd), .int .i64 (mx sh bh), .int .i64 (sg + bg)]) ∧ RowV.own w' w.heap.size ⟨g, cap, us ++ [i]⟩ ∧ Below w.heap.size w w' := by
 obtain ⟨i0, hi, hz0, hz1, hz2⟩ := info_parts Try.infoInt
 have HU0 := hide hu
 clear hu
 go_enter Try.func43, Try.ntmps43
 go_upto_region 1 with fail
 generalize hW : (((w.alloc (.cells #[.slice (some ⟨rg, 0, none⟩) us.length c, .int .i64 sw, .int .i64 sd, .int .i64 sh, .int .i64 sg] 51)).alloc (.cells #[.int .i64 bw, .int .i64 bd, .int .i64 bh, .int .i64 bg] 52)).alloc (.cells #[.slice none 0 0, .int .i64 0, .int .i64 0, .int .i64 0, .int .i64 0] 51)) = W at *
 obtain ⟨BW, KsW, ZsW, KbW, ZbW, KrW, ZrW⟩ := en3 hW
 have Gs : w.heap.size ≤ w.heap.size := by omega
 have Gb : w.heap.size ≤ (w.heap.size + 1) := by omega
 have Nqsb : w.heap.size ≠ (w.heap.size + 1) := by omega
 have Nqbs : (w.heap.size + 1) ≠ w.heap.size := by omega
 have Gr : w.heap.size ≤ (w.heap.size + 1 + 1) := by omega
 have Nqsr : w.heap.size ≠ (w.heap.size + 1 + 1) := by omega
 have Nqrs : (w.heap.size + 1 + 1) ≠ w.heap.size := by omega
 have Nqbr : (w.heap.size + 1) ≠ (w.heap.size + 1 + 1) := by omega
 have Nqrb : (w.heap.size + 1 + 1) ≠ (w.heap.size + 1) := by omega
 clear hW
 refine wp_region_noPanic ?_
 have Bu0 : Hid (Below w.heap.size w W.drew) := BW.out.drew
 have Ksu0 : Hid (Blk W.drew w.heap.size [.slice (some ⟨rg, 0, none⟩) us.length c, .int .i64 sw, .int .i64 sd, .int .i64 sh, .int .i64 sg]) := unhide KsW
 have Zsu0 : w.heap.size < W.drew.heap.size := ZsW
 have Kbu0 : Hid (Blk W.drew (w.heap.size + 1) [.int .i64 bw, .int .i64 bd, .int .i64 bh, .int .i64 bg]) := unhide KbW
 have Zbu0 : (w.heap.size + 1) < W.drew.heap.size := ZbW
 have Kru0 : Hid (Blk W.drew (w.heap.size + 1 + 1) [.slice none 0 0, .int .i64 0, .int .i64 0, .int .i64 0, .int .i64 0]) := unhide KrW
 have Zru0 : (w.heap.size + 1 + 1) < W.drew.heap.size := ZrW
 obtain ⟨S, hSdef⟩ : ∃ S : World → Prop, S = (fun w' => w'.cell? ⟨w.heap.size, 0, none⟩ = some (.slice (some ⟨rg, 0, none⟩) us.length c) ∧ w'.cell? ⟨w.heap.size, 1, none⟩ = some (.int .i64 sw) ∧ w'.cell? ⟨w.heap.size, 2, none⟩ = some (.int .i64 sd) ∧ w'.cell? ⟨w.heap.size, 3, none⟩ = some (.int .i64 sh) ∧ w'.cell? ⟨w.heap.size, 4, none⟩ = some (.int .i64 sg) ∧ w'.cell? ⟨(w.heap.size + 1), 0, none⟩ = some (.int .i64 bw) ∧ w'.cell? ⟨(w.heap.size + 1), 1, none⟩ = some (.int .i64 bd) ∧ w'.cell? ⟨(w.heap.size + 1), 2, none⟩ = some (.int .i64 bh) ∧ w'.cell? ⟨(w.heap.size + 1), 3, none⟩ = some (.int .i64 bg)) := ⟨_, rfl⟩
 have hSmk : ∀ wq, Blk wq w.heap.size [.slice (some ⟨rg, 0, none⟩) us.length c, .int .i64 sw, .int .i64 sd, .int .i64 sh, .int .i64 sg] → Blk wq (w.heap.size + 1) [.int .i64 bw, .int .i64 bd, .int .i64 bh, .int .i64 bg] → S wq := fun wq ks kb => by rw [hSdef]; exact ⟨(ks 0 (by simp)).1, (ks 1 (by simp)).1, (ks 2 (by simp)).1, (ks 3 (by simp)).1, (ks 4 (by simp)).1, (kb 0 (by simp)).1, (kb 1 (by simp)).1, (kb 2 (by simp)).1, (kb 3 (by simp)).1⟩
 have hSd : ∀ wq, S wq → (fun w' => w'.cell? ⟨w.heap.size, 0, none⟩ = some (.slice (some ⟨rg, 0, none⟩) us.length c) ∧ w'.cell? ⟨w.heap.size, 1, none⟩ = some (.int .i64 sw) ∧ w'.cell? ⟨w.heap.size, 2, none⟩ = some (.int .i64 sd) ∧ w'.cell? ⟨w.heap.size, 3, none⟩ = some (.int .i64 sh) ∧ w'.cell? ⟨w.heap.size, 4, none⟩ = some (.int .i64 sg) ∧ w'.cell? ⟨(w.heap.size + 1), 0, none⟩ = some (.int .i64 bw) ∧ w'.cell? ⟨(w.heap.size + 1), 1, none⟩ = some (.int .i64 bd) ∧ w'.cell? ⟨(w.heap.size + 1), 2, none⟩ = some (.int .i64 bh) ∧ w'.cell? ⟨(w.heap.size + 1), 3, none⟩ = some (.int .i64 bg)) wq := fun wq h => by rw [hSdef] at h; exact h
 clear hSdef
 have hHeld : S W.drew := hSmk W.drew Ksu0.out Kbu0.out
 refine wp_region_to (S := S) (T := [28]) (by kernel_rfl) hHeld (fun _ => ?_)
 generalize W.drew = u0 at *
 refine wpTo_ts (i := 1) (v := ?_) rfl (by kernel_rfl) hSd (by rfl) (fun w hSw => ?_) (by assumption) ?_
 rotate_left
 · ((try dsimp only [RqC] at hSw); go_simp <;> with_reducible rfl)
 refine wpTo_ts (i := 2) (v := ?_) rfl (by kernel_rfl) hSd (by rfl) (fun w hSw => ?_) (by assumption) ?_
 rotate_left
 · ((try dsimp only [RqC] at hSw); go_simp <;> with_reducible rfl)
 refine wpTo_ts (i := 4) (v := ?_) rfl (by kernel_rfl) hSd (by rfl) (fun w hSw => ?_) (by assumption) ?_
 rotate_left
 · ((try dsimp only [RqC] at hSw); go_simp <;> with_reducible rfl)
 refine wpTo_ts (i := 7) (v := ?_) rfl (by kernel_rfl) hSd (by rfl) (fun w hSw => ?_) (by assumption) ?_
 rotate_left
 · ((try dsimp only [RqC] at hSw); go_simp <;> with_reducible rfl)
 refine wpTo_ts (i := 8) (v := ?_) rfl (by kernel_rfl) hSd (by rfl) (fun w hSw => ?_) (by assumption) ?_
 rotate_left
 · ((try dsimp only [RqC] at hSw); go_simp <;> with_reducible rfl)
 refine wpTo_ts (i := 9) (v := ?_) rfl (by kernel_rfl) hSd (by rfl) (fun w hSw => ?_) (by assumption) ?_
 rotate_left
 · ((try dsimp only [RqC] at hSw); go_simp <;> with_reducible rfl)
 refine wpTo_ts (i := 10) (v := ?_) rfl (by kernel_rfl) hSd (by rfl) (fun w hSw => ?_) (by assumption) ?_
 rotate_left
 · ((try dsimp only [RqC] at hSw); go_simp <;> with_reducible rfl)
 refine wpTo_ts (i := 11) (v := ?_) rfl (by kernel_rfl) hSd (by rfl) (fun w hSw => ?_) (by assumption) ?_
 rotate_left
 · ((try dsimp only [RqC] at hSw); go_simp <;> with_reducible rfl)
 try simp only [Act.put, zz1, zz2, zz3, zz4, zz5, zz6]
 rw [wrap_fits (x := sw + bw) (by omega) (by omega)]
 refine wpTo_ts (i := 12) (v := ?_) rfl (by kernel_rfl) hSd (by rfl) (fun w hSw => ?_) (by assumption) ?_
 rotate_left
 · ((try dsimp only [RqC] at hSw); go_simp <;> with_reducible rfl)
 try simp only [Act.put, zz1, zz2, zz3, zz4, zz5, zz6]
 refine wpTo_ts (i := 13) (v := ?_) rfl (by kernel_rfl) hSd (by rfl) (fun w hSw => ?_) (by assumption) ?_
 rotate_left
 · ((try dsimp only [RqC] at hSw); go_simp <;> with_reducible rfl)
 refine wpTo_ts (i := 14) (v := ?_) rfl (by kernel_rfl) hSd (by rfl) (fun w hSw => ?_) (by assumption) ?_
 rotate_left
 · ((try dsimp only [RqC] at hSw); go_simp <;> with_reducible rfl)
 refine wpTo_ts (i := 15) (v := ?_) rfl (by kernel_rfl) hSd (by rfl) (fun w hSw => ?_) (by assumption) ?_
 rotate_left
 · ((try dsimp only [RqC] at hSw); go_simp <;> with_reducible rfl)
 refine wpTo_ts (i := 17) (v := ?_) rfl (by kernel_rfl) hSd (by rfl) (fun w hSw => ?_) (by assumption) ?_
 rotate_left
 · ((try dsimp only [RqC] at hSw); go_simp <;> with_reducible rfl)
 refine wpTo_ts (i := 18) (v := ?_) rfl (by kernel_rfl) hSd (by rfl) (fun w hSw => ?_) (by assumption) ?_
 rotate_left
 · ((try dsimp only [RqC] at hSw); go_simp <;> with_reducible rfl)
 refine wpTo_ts (i := 19) (v := ?_) rfl (by kernel_rfl) hSd (by rfl) (fun w hSw => ?_) (by assumption) ?_
 rotate_left
 · ((try dsimp only [RqC] at hSw); go_simp <;> with_reducible rfl)
 refine wpTo_ts (i := 20) (v := ?_) rfl (by kernel_rfl) hSd (by rfl) (fun w hSw => ?_) (by assumption) ?_
 rotate_left
 · ((try dsimp only [RqC] at hSw); go_simp <;> with_reducible rfl)
 refine wpTo_ts (i := 22) (v := ?_) rfl (by kernel_rfl) hSd (by rfl) (fun w hSw => ?_) (by assumption) ?_
 rotate_left
 · ((try dsimp only [RqC] at hSw); go_simp <;> with_reducible rfl)
 refine wpTo_ts (i := 23) (v := ?_) rfl (by kernel_rfl) hSd (by rfl) (fun w hSw => ?_) (by assumption) ?_
 rotate_left
 · ((try dsimp only [RqC] at hSw); go_simp <;> with_reducible rfl)
 try simp only [Act.put, zz1, zz2, zz3, zz4, zz5, zz6]
 refine wpTo_ts (i := 24) (v := ?_) rfl (by kernel_rfl) hSd (by rfl) (fun w hSw => ?_) (by assumption) ?_
 rotate_left
 · ((try dsimp only [RqC] at hSw); go_simp <;> with_reducible rfl)
 refine wpTo_ts (i := 25) (v := ?_) rfl (by kernel_rfl) hSd (by rfl) (fun w hSw => ?_) (by assumption) ?_
 rotate_left
 · ((try dsimp only [RqC] at hSw); go_simp <;> with_reducible rfl)
 refine wpTo_ts (i := 26) (v := ?_) rfl (by kernel_rfl) hSd (by rfl) (fun w hSw => ?_) (by assumption) ?_
 rotate_left
 · ((try dsimp only [RqC] at hSw); go_simp <;> with_reducible rfl)
 try simp only [Act.put, zz1, zz2, zz3, zz4, zz5, zz6]
 rw [wrap_fits (x := sg + bg) (by omega) (by omega)]
 try simp only [Act.put, zz1, zz2, zz3, zz4, zz5, zz6]
 refine wpTo_inv (fun a0 listed ai wi => ∃ (b0 b3 b5 b6 b16 b21 b27 b28 : Bool) (ge gf cf gu gk ck : Nat), listed = #[b0, true, true, b3, true, b5, b6, true, true, true, true, true, true, true, true, true, b16, true, true, true, true, b21, true, true, true, true, true, b27, b28] ∧ ai = fillS b27 34 (.agg #[.slice (some ⟨gk, 0, none⟩) (us.length + 1) ck, .int .i64 (sw + bw), .int .i64 (mx sd bd), .int .i64 (mx sh bh), .int .i64 (sg + bg)]) (fillS b21 28 (.int .i64 (mx sh bh)) (fillS b16 23 (.int .i64 (mx sd bd)) (fillS b6 13 (.slice (some ⟨gk, 0, none⟩) (us.length + 1) ck) (fillS b5 12 (.slice (some ⟨gu, 0, none⟩) 1 1) (fillS b3 10 (.slice (some ⟨gf, 0, none⟩) (us.length) cf) (fillS b0 7 (.slice (some ⟨ge, 0, none⟩) 0 0) (a0))))))) ∧ Hid (Fk b28 → Below u0.heap.size u0 wi) ∧ Hid (Tk b0 → Fk b3 → Fk b28 → wi.ownsRow u0.heap.size 3 1 (.slice (some ⟨ge, 0, none⟩) (0) 0) (0) ([])) ∧ Hid (Tk b3 → Fk b6 → Fk b28 → wi.ownsRow u0.heap.size 3 1 (.slice (some ⟨gf, 0, none⟩) (us.length) cf) (us.length) (us.map (Value.int .i64))) ∧ Hid (Tk b5 → Fk b28 → Blk wi gu [.int .i64 i] ∧ gu < wi.heap.size ∧ u0.heap.size ≤ gu) ∧ Hid (Tk b6 → Fk b28 → wi.ownsRow u0.heap.size 3 1 (.slice (some ⟨gk, 0, none⟩) (us.length + 1) ck) (us.length + 1) ((us ++ [i]).map (Value.int .i64))) ∧ Hid (Tk b0 → Tk b5 → Fk b3 → Fk b28 → ge ≠ gu) ∧ Hid (Tk b0 → Tk b6 → Fk b3 → Fk b28 → ge ≠ gk) ∧ Hid (Tk b3 → Tk b5 → Fk b6 → Fk b28 → gf ≠ gu) ∧ Hid (Tk b28 → Blk wi (w.heap.size + 1 + 1) [.slice (some ⟨gk, 0, none⟩) (us.length + 1) ck, .int .i64 (sw + bw), .int .i64 (mx sd bd), .int .i64 (mx sh bh), .int .i64 (sg + bg)]) ∧ Hid (Tk b28 → Below w.heap.size w wi) ∧ Hid (Tk b28 → wi.ownsRow w.heap.size 3 1 (.slice (some ⟨gk, 0, none⟩) (us.length + 1) ck) (us.length + 1) ((us ++ [i]).map (Value.int .i64))) ∧ Hid (Tk b3 → Tk b0) ∧ Hid (Tk b6 → Tk b0 ∧ Tk b3 ∧ Tk b5) ∧ Hid (Tk b16 → Tk b0 ∧ Tk b3 ∧ Tk b5 ∧ Tk b6) ∧ Hid (Tk b21 → Tk b0 ∧ Tk b3 ∧ Tk b5 ∧ Tk b6 ∧ Tk b16) ∧ Hid (Tk b27 → Tk b0 ∧ Tk b3 ∧ Tk b5 ∧ Tk b6 ∧ Tk b16 ∧ Tk b21) ∧ Hid (Tk b28 → Tk b0 ∧ Tk b3 ∧ Tk b5 ∧ Tk b6 ∧ Tk b16 ∧ Tk b21 ∧ Tk b27)) ⟨false, false, false, false, false, false, false, false, 0, 0, 0, 0, 0, 0, rfl, by simp only [fillS_false], (fun _ => Below.refl _ _), (fun h _ _ => by cases h), (fun h _ _ => by cases h), (fun h _ => by cases h), (fun h _ => by cases h), (fun h _ _ _ => by cases h), (fun h _ _ _ => by cases h), (fun h _ _ _ => by cases h), (fun h => by cases h), (fun h => by cases h), (fun h => by cases h), (fun h => by cases h), (fun h => by cases h), (fun h => by cases h), (fun h => by cases h), (fun h => by cases h), (fun h => by cases h)⟩ ?hS ?hT ?step ?fin _ (by decide)
 case hS =>
  rintro listed ai wi ⟨b0, b3, b5, b6, b16, b21, b27, b28, ge, gf, cf, gu, gk, ck, rfl, ha, FB, FOe, FOf, FKu, FOk, FNeu, FNek, FNfu, FP0, FP1, FP2, FC3, FC6, FC16, FC21, FC27, FC28⟩ hTf
  exact hSmk wi (Blk.below (FB.out (by have h7 := hTf 28 (by simp); simpa [Fk] using h7)) Zsu0 Ksu0.out) (Blk.below (FB.out (by have h7 := hTf 28 (by simp); simpa [Fk] using h7)) Zbu0 Kbu0.out)
 case hT =>
  rintro listed ai wi ⟨b0, b3, b5, b6, b16, b21, b27, b28, ge, gf, cf, gu, gk, ck, rfl, ha, FB, FOe, FOf, FKu, FOk, FNeu, FNek, FNfu, FP0, FP1, FP2, FC3, FC6, FC16, FC21, FC27, FC28⟩ f hf hlf
  obtain rfl : f = 28 := by simpa using hf
  obtain rfl : b28 = true := by simpa using hlf
  obtain ⟨rfl, rfl, rfl, rfl, rfl, rfl, rfl⟩ := FC28.out rfl
  decide
 case step =>
  rintro listed ai wi i o ⟨b0, b3, b5, b6, b16, b21, b27, b28, ge, gf, cf, gu, gk, ck, rfl, ha, FB, FOe, FOf, FKu, FOk, FNeu, FNek, FNfu, FP0, FP1, FP2, FC3, FC6, FC16, FC21, FC27, FC28⟩ ho hl hall
  have hi : i < 29 := (Array.getElem?_eq_some_iff.1 ho).1
  obtain rfl | rfl | rfl | rfl | rfl | rfl | rfl | rfl | rfl | rfl | rfl | rfl | rfl | rfl | rfl | rfl | rfl | rfl | rfl | rfl | rfl | rfl | rfl | rfl | rfl | rfl | rfl | rfl | rfl : i = 0 ∨ i = 1 ∨ i = 2 ∨ i = 3 ∨ i = 4 ∨ i = 5 ∨ i = 6 ∨ i = 7 ∨ i = 8 ∨ i = 9 ∨ i = 10 ∨ i = 11 ∨ i = 12 ∨ i = 13 ∨ i = 14 ∨ i = 15 ∨ i = 16 ∨ i = 17 ∨ i = 18 ∨ i = 19 ∨ i = 20 ∨ i = 21 ∨ i = 22 ∨ i = 23 ∨ i = 24 ∨ i = 25 ∨ i = 26 ∨ i = 27 ∨ i = 28 := by omega
  · obtain rfl := Option.some.inj ho
    obtain rfl : b0 = false := by simpa using hl
    obtain rfl : b3 = false := Tk_no (fun p => by have h8 := FC3.out p; simp [Tk] at h8)
    obtain rfl : b6 = false := Tk_no (fun p => by have h8 := FC6.out p; simp [Tk] at h8)
    obtain rfl : b16 = false := Tk_no (fun p => by have h8 := FC16.out p; simp [Tk] at h8)
    obtain rfl : b21 = false := Tk_no (fun p => by have h8 := FC21.out p; simp [Tk] at h8)
    obtain rfl : b27 = false := Tk_no (fun p => by have h8 := FC27.out p; simp [Tk] at h8)
    obtain rfl : b28 = false := Tk_no (fun p => by have h8 := FC28.out p; simp [Tk] at h8)
    clear ho hl hall hi
    simp only [fillS, pickS_true, pickS_false, Act.put, zz7, zz8, zz9, zz10, zz11, zz1, zz2, zz3, zz4, zz5, zz6] at ha
    subst ha
    refine wpOp_stepS (o := _) rfl (fun K hK => ?_)
    go_simp
    refine hK.out _ _ ?_
    exact ⟨true, false, b5, false, false, false, false, false, wi.heap.size, gf, cf, gu, gk, ck, rfl, by simp only [fillS, pickS_true, pickS_false, Act.put, zz7, zz8, zz9, zz10, zz11, zz1, zz2, zz3, zz4, zz5, zz6], (fun q28 => ((unhide FB q28).alloc (unhide FB q28).size _)), (fun p0 q3 q28 => own_lit0 wi (FB.out rfl).size), (fun p3 q6 q28 => (by cases p3)), (fun p5 q28 => ⟨(unhide FKu p5 q28).1.allocOld (unhide FKu p5 q28).2.1 _, lt_alloc (unhide FKu p5 q28).2.1 _, (unhide FKu p5 q28).2.2⟩), (fun p6 q28 => (by cases p6)), (fun p0 p5 q3 q28 => (Ne.symm ((Nat.ne_of_lt (unhide FKu p5 q28).2.1)))), (fun p0 p6 q3 q28 => (by cases p6)), (fun p3 p5 q6 q28 => (by cases p3)), (fun p28 => (by cases p28)), (fun p28 => (by cases p28)), (fun p28 => (by cases p28)), (fun p3 => (by cases p3)), (fun p6 => (by cases p6)), (fun p16 => (by cases p16)), (fun p21 => (by cases p21)), (fun p27 => (by cases p27)), (fun p28 => (by cases p28))⟩
  · exact absurd hl (by simp)
  · exact absurd hl (by simp)
  · obtain rfl := Option.some.inj ho
    obtain rfl : b3 = false := by simpa using hl
    obtain rfl : b0 = true := by simpa using hall ⟨0, .data⟩ (by simp) rfl
    obtain rfl : b6 = false := Tk_no (fun p => by have h8 := FC6.out p; simp [Tk] at h8)
    obtain rfl : b16 = false := Tk_no (fun p => by have h8 := FC16.out p; simp [Tk] at h8)
    obtain rfl : b21 = false := Tk_no (fun p => by have h8 := FC21.out p; simp [Tk] at h8)
    obtain rfl : b27 = false := Tk_no (fun p => by have h8 := FC27.out p; simp [Tk] at h8)
    obtain rfl : b28 = false := Tk_no (fun p => by have h8 := FC28.out p; simp [Tk] at h8)
    clear ho hl hall hi
    simp only [fillS, pickS_true, pickS_false, Act.put, zz7, zz8, zz9, zz10, zz11, zz1, zz2, zz3, zz4, zz5, zz6] at ha
    subst ha
    have hsrc := FOe.out rfl rfl rfl
    refine wpOp_stepS (o := _) rfl (fun K hK => ?_)
    refine step_append_some _ (by rfl) _ _ 49 (by rfl) u0.heap.size 3 i0 (.int .i64 0) 1 8 Try.underlying49 hi hz0 hz1 hz2 rfl (by omega) (.slice (some ⟨ge, 0, none⟩) (0) 0) (0) ([]) (by rfl) hsrc (by simp) ⟨rg, 0, none⟩ (us.length) (c) (us.map (Value.int .i64)) (by rfl) HU0.out.news_len (HU0.out.mono (Bu0.out.trans ((FB.out rfl).mono Bu0.out.size))).news (news_one us) (by unfold maxLen; omega) (by omega) (FB.out rfl).size ?_
    intro gnew cnew wz hown hg hat hlt
    rw [Nat.zero_add] at hown ⊢
    rw [List.nil_append] at hown
    refine hK.out _ _ ?_
    exact ⟨true, true, b5, false, false, false, false, false, ge, gnew, cnew, gu, gk, ck, rfl, by simp only [fillS, pickS_true, pickS_false, Act.put, zz7, zz8, zz9, zz10, zz11, zz1, zz2, zz3, zz4, zz5, zz6], (fun q28 => ((unhide FB q28).grown hg (unhide FB q28).size (fun b hb => by have := own_base hsrc; simp [Value.ownBlock] at hb; omega))), (fun p0 q3 q28 => (by cases q3)), (fun p3 q6 q28 => hown), (fun p5 q28 => ⟨Blk.gb (unhide FKu p5 q28).1 hg (unhide FKu p5 q28).2.1 (Ne.symm (unhide FNeu rfl p5 rfl q28)), Nat.lt_of_lt_of_le (unhide FKu p5 q28).2.1 hg.size, (unhide FKu p5 q28).2.2⟩), (fun p6 q28 => (by cases p6)), (fun p0 p5 q3 q28 => (by cases q3)), (fun p0 p6 q3 q28 => (by cases q3)), (fun p3 p5 q6 q28 => (Ne.symm (ne_new hat (Ne.symm (unhide FNeu rfl p5 rfl q28)) (unhide FKu p5 q28).2.1))), (fun p28 => (by cases p28)), (fun p28 => (by cases p28)), (fun p28 => (by cases p28)), (fun p3 => rfl), (fun p6 => (by cases p6)), (fun p16 => (by cases p16)), (fun p21 => (by cases p21)), (fun p27 => (by cases p27)), (fun p28 => (by cases p28))⟩
  · exact absurd hl (by simp)
  · obtain rfl := Option.some.inj ho
    obtain rfl : b5 = false := by simpa using hl
    obtain rfl : b6 = false := Tk_no (fun p => by have h8 := FC6.out p; simp [Tk] at h8)
    obtain rfl : b16 = false := Tk_no (fun p => by have h8 := FC16.out p; simp [Tk] at h8)
    obtain rfl : b21 = false := Tk_no (fun p => by have h8 := FC21.out p; simp [Tk] at h8)
    obtain rfl : b27 = false := Tk_no (fun p => by have h8 := FC27.out p; simp [Tk] at h8)
    obtain rfl : b28 = false := Tk_no (fun p => by have h8 := FC28.out p; simp [Tk] at h8)
    clear ho hl hall hi
    simp only [fillS, pickS_true, pickS_false, Act.put, zz7, zz8, zz9, zz10, zz11, zz1, zz2, zz3, zz4, zz5, zz6] at ha
    subst ha
    refine wpOp_stepS (o := _) rfl (fun K hK => ?_)
    go_simp
    refine hK.out _ _ ?_
    exact ⟨b0, b3, true, false, false, false, false, false, ge, gf, cf, wi.heap.size, gk, ck, rfl, by simp only [fillS, pickS_true, pickS_false, Act.put, zz7, zz8, zz9, zz10, zz11, zz1, zz2, zz3, zz4, zz5, zz6], (fun q28 => ((unhide FB q28).alloc (unhide FB q28).size _)), (fun p0 q3 q28 => ((unhide FOe p0 q3 q28).alloc _)), (fun p3 q6 q28 => ((unhide FOf p3 q6 q28).alloc _)), (fun p5 q28 => ⟨Blk.allocAt [.int .i64 i] (by rfl), lt_alloc_new wi _, (FB.out rfl).size⟩), (fun p6 q28 => (by cases p6)), (fun p0 p5 q3 q28 => (Nat.ne_of_lt ((unhide FOe p0 q3 q28).lt _ rfl).2)), (fun p0 p6 q3 q28 => (by cases p6)), (fun p3 p5 q6 q28 => (Nat.ne_of_lt ((unhide FOf p3 q6 q28).lt _ rfl).2)), (fun p28 => (by cases p28)), (fun p28 => (by cases p28)), (fun p28 => (by cases p28)), (fun p3 => (unhide FC3 p3)), (fun p6 => (by cases p6)), (fun p16 => (by cases p16)), (fun p21 => (by cases p21)), (fun p27 => (by cases p27)), (fun p28 => (by cases p28))⟩
  · obtain rfl := Option.some.inj ho
    obtain rfl : b6 = false := by simpa using hl
    obtain rfl : b3 = true := by simpa using hall ⟨3, .data⟩ (by simp) rfl
    obtain rfl := FC3.out rfl
    obtain rfl : b5 = true := by simpa using hall ⟨5, .data⟩ (by simp) rfl
    obtain rfl : b16 = false := Tk_no (fun p => by have h8 := FC16.out p; simp [Tk] at h8)
    obtain rfl : b21 = false := Tk_no (fun p => by have h8 := FC21.out p; simp [Tk] at h8)
    obtain rfl : b27 = false := Tk_no (fun p => by have h8 := FC27.out p; simp [Tk] at h8)
    obtain rfl : b28 = false := Tk_no (fun p => by have h8 := FC28.out p; simp [Tk] at h8)
    clear ho hl hall hi
    simp only [fillS, pickS_true, pickS_false, Act.put, zz7, zz8, zz9, zz10, zz11, zz1, zz2, zz3, zz4, zz5, zz6] at ha
    subst ha
    have hsrc := FOf.out rfl rfl rfl
    refine wpOp_stepS (o := _) rfl (fun K hK => ?_)
    refine step_append_some _ (by rfl) _ _ 49 (by rfl) u0.heap.size 3 i0 (.int .i64 0) 1 8 Try.underlying49 hi hz0 hz1 hz2 rfl (by omega) (.slice (some ⟨gf, 0, none⟩) (us.length) cf) (us.length) (us.map (Value.int .i64)) (by rfl) hsrc (by simp) ⟨gu, 0, none⟩ (1) (1) ([.int .i64 i]) (by rfl) rfl ((FKu.out rfl rfl).1).news (by simp [Value.oneCell']) (by unfold maxLen; omega) (by omega) (FB.out rfl).size ?_
    intro gnew cnew wz hown hg hat hlt
    rw [show us.map (Value.int .i64) ++ [.int .i64 i] = (us ++ [i]).map (Value.int .i64) from by simp] at hown
    refine hK.out _ _ ?_
    exact ⟨true, true, true, true, false, false, false, false, ge, gf, cf, gu, gnew, cnew, rfl, by simp only [fillS, pickS_true, pickS_false, Act.put, zz7, zz8, zz9, zz10, zz11, zz1, zz2, zz3, zz4, zz5, zz6], (fun q28 => ((unhide FB q28).grown hg (unhide FB q28).size (fun b hb => by have := own_base hsrc; simp [Value.ownBlock] at hb; omega))), (fun p0 q3 q28 => (by cases q3)), (fun p3 q6 q28 => (by cases q6)), (fun p5 q28 => ⟨Blk.gb (unhide FKu p5 q28).1 hg (unhide FKu p5 q28).2.1 (Ne.symm (unhide FNfu rfl p5 rfl q28)), Nat.lt_of_lt_of_le (unhide FKu p5 q28).2.1 hg.size, (unhide FKu p5 q28).2.2⟩), (fun p6 q28 => hown), (fun p0 p5 q3 q28 => (by cases q3)), (fun p0 p6 q3 q28 => (by cases q3)), (fun p3 p5 q6 q28 => (by cases q6)), (fun p28 => (by cases p28)), (fun p28 => (by cases p28)), (fun p28 => (by cases p28)), (fun p3 => (unhide FC3 p3)), (fun p6 => ⟨rfl, rfl, rfl⟩), (fun p16 => (by cases p16)), (fun p21 => (by cases p21)), (fun p27 => (by cases p27)), (fun p28 => (by cases p28))⟩
  · exact absurd hl (by simp)
  · exact absurd hl (by simp)
  · exact absurd hl (by simp)
  · exact absurd hl (by simp)
  · exact absurd hl (by simp)
  · exact absurd hl (by simp)
  · exact absurd hl (by simp)
  · exact absurd hl (by simp)
  · exact absurd hl (by simp)
  · obtain rfl := Option.some.inj ho
    obtain rfl : b16 = false := by simpa using hl
    obtain rfl : b6 = true := by simpa using hall ⟨6, .chain⟩ (by simp) rfl
    obtain ⟨rfl, rfl, rfl⟩ := FC6.out rfl
    obtain rfl : b21 = false := Tk_no (fun p => by have h8 := FC21.out p; simp [Tk] at h8)
    obtain rfl : b27 = false := Tk_no (fun p => by have h8 := FC27.out p; simp [Tk] at h8)
    obtain rfl : b28 = false := Tk_no (fun p => by have h8 := FC28.out p; simp [Tk] at h8)
    clear ho hl hall hi
    simp only [fillS, pickS_true, pickS_false, Act.put, zz7, zz8, zz9, zz10, zz11, zz1, zz2, zz3, zz4, zz5, zz6] at ha
    subst ha
    refine wpOp_stepS (o := _) rfl (fun K hK => ?_)
    go_simp
    refine (l1Max_any _ _ wi).mono ?_
    rintro e wz ⟨rfl, hwz⟩
    subst wz
    go_wp2_with fail
    refine hK.out _ _ ?_
    exact ⟨true, true, true, true, true, false, false, false, ge, gf, cf, gu, gk, ck, rfl, by simp only [fillS, pickS_true, pickS_false, Act.put, zz7, zz8, zz9, zz10, zz11, zz1, zz2, zz3, zz4, zz5, zz6], (fun q28 => (unhide FB q28)), (fun p0 q3 q28 => (by cases q3)), (fun p3 q6 q28 => (by cases q6)), (fun p5 q28 => (unhide FKu p5 q28)), (fun p6 q28 => (unhide FOk p6 q28)), (fun p0 p5 q3 q28 => (by cases q3)), (fun p0 p6 q3 q28 => (by cases q3)), (fun p3 p5 q6 q28 => (by cases q6)), (fun p28 => (by cases p28)), (fun p28 => (by cases p28)), (fun p28 => (by cases p28)), (fun p3 => (unhide FC3 p3)), (fun p6 => (unhide FC6 p6)), (fun p16 => ⟨rfl, rfl, rfl, rfl⟩), (fun p21 => (by cases p21)), (fun p27 => (by cases p27)), (fun p28 => (by cases p28))⟩
  · exact absurd hl (by simp)
  · exact absurd hl (by simp)
  · exact absurd hl (by simp)
  · exact absurd hl (by simp)
  · obtain rfl := Option.some.inj ho
    obtain rfl : b21 = false := by simpa using hl
    obtain rfl : b16 = true := by simpa using hall ⟨16, .chain⟩ (by simp) rfl
    obtain ⟨rfl, rfl, rfl, rfl⟩ := FC16.out rfl
    obtain rfl : b27 = false := Tk_no (fun p => by have h8 := FC27.out p; simp [Tk] at h8)
    obtain rfl : b28 = false := Tk_no (fun p => by have h8 := FC28.out p; simp [Tk] at h8)
    clear ho hl hall hi
    simp only [fillS, pickS_true, pickS_false, Act.put, zz7, zz8, zz9, zz10, zz11, zz1, zz2, zz3, zz4, zz5, zz6] at ha
    subst ha
    refine wpOp_stepS (o := _) rfl (fun K hK => ?_)
    go_simp
    refine (l1Max_any _ _ wi).mono ?_
    rintro e wz ⟨rfl, hwz⟩
    subst wz
    go_wp2_with fail
    refine hK.out _ _ ?_
    exact ⟨true, true, true, true, true, true, false, false, ge, gf, cf, gu, gk, ck, rfl, by simp only [fillS, pickS_true, pickS_false, Act.put, zz7, zz8, zz9, zz10, zz11, zz1, zz2, zz3, zz4, zz5, zz6], (fun q28 => (unhide FB q28)), (fun p0 q3 q28 => (by cases q3)), (fun p3 q6 q28 => (by cases q6)), (fun p5 q28 => (unhide FKu p5 q28)), (fun p6 q28 => (unhide FOk p6 q28)), (fun p0 p5 q3 q28 => (by cases q3)), (fun p0 p6 q3 q28 => (by cases q3)), (fun p3 p5 q6 q28 => (by cases q6)), (fun p28 => (by cases p28)), (fun p28 => (by cases p28)), (fun p28 => (by cases p28)), (fun p3 => (unhide FC3 p3)), (fun p6 => (unhide FC6 p6)), (fun p16 => (unhide FC16 p16)), (fun p21 => ⟨rfl, rfl, rfl, rfl, rfl⟩), (fun p27 => (by cases p27)), (fun p28 => (by cases p28))⟩
  · exact absurd hl (by simp)
  · exact absurd hl (by simp)
  · exact absurd hl (by simp)
  · exact absurd hl (by simp)
  · exact absurd hl (by simp)
  · obtain rfl := Option.some.inj ho
    obtain rfl : b27 = false := by simpa using hl
    obtain rfl : b6 = true := by simpa using hall ⟨6, .data⟩ (by simp) rfl
    obtain ⟨rfl, rfl, rfl⟩ := FC6.out rfl
    obtain rfl : b16 = true := by simpa using hall ⟨16, .data⟩ (by simp) rfl
    obtain rfl : b21 = true := by simpa using hall ⟨21, .data⟩ (by simp) rfl
    obtain rfl : b28 = false := Tk_no (fun p => by have h8 := FC28.out p; simp [Tk] at h8)
    clear ho hl hall hi
    simp only [fillS, pickS_true, pickS_false, Act.put, zz7, zz8, zz9, zz10, zz11, zz1, zz2, zz3, zz4, zz5, zz6] at ha
    subst ha
    refine wpOp_stepS (o := _) rfl (fun K hK => ?_)
    go_simp
    refine hK.out _ _ ?_
    exact ⟨true, true, true, true, true, true, true, false, ge, gf, cf, gu, gk, ck, rfl, by simp only [fillS, pickS_true, pickS_false, Act.put, zz7, zz8, zz9, zz10, zz11, zz1, zz2, zz3, zz4, zz5, zz6], (fun q28 => (unhide FB q28)), (fun p0 q3 q28 => (by cases q3)), (fun p3 q6 q28 => (by cases q6)), (fun p5 q28 => (unhide FKu p5 q28)), (fun p6 q28 => (unhide FOk p6 q28)), (fun p0 p5 q3 q28 => (by cases q3)), (fun p0 p6 q3 q28 => (by cases q3)), (fun p3 p5 q6 q28 => (by cases q6)), (fun p28 => (by cases p28)), (fun p28 => (by cases p28)), (fun p28 => (by cases p28)), (fun p3 => (unhide FC3 p3)), (fun p6 => (unhide FC6 p6)), (fun p16 => (unhide FC16 p16)), (fun p21 => (unhide FC21 p21)), (fun p27 => ⟨rfl, rfl, rfl, rfl, rfl, rfl⟩), (fun p28 => (by cases p28))⟩
  · obtain rfl := Option.some.inj ho
    obtain rfl : b28 = false := by simpa using hl
    obtain rfl : b27 = true := by simpa using hall ⟨27, .data⟩ (by simp) rfl
    obtain ⟨rfl, rfl, rfl, rfl, rfl, rfl⟩ := FC27.out rfl
    clear ho hl hall hi
    simp only [fillS, pickS_true, pickS_false, Act.put, zz7, zz8, zz9, zz10, zz11, zz1, zz2, zz3, zz4, zz5, zz6] at ha
    subst ha
    refine wpOp_stepS (o := _) rfl (fun K hK => ?_)
    go_simp
    have kr := (Blk.below (FB.out rfl) Zru0 Kru0.out)
    have p0 := (kr 0 (by simp)).1
    have q0 := (kr 0 (by simp)).2
    have p1 := (kr 1 (by simp)).1
    have q1 := (kr 1 (by simp)).2
    have p2 := (kr 2 (by simp)).1
    have q2 := (kr 2 (by simp)).2
    have p3 := (kr 3 (by simp)).1
    have q3 := (kr 3 (by simp)).2
    have p4 := (kr 4 (by simp)).1
    have q4 := (kr 4 (by simp)).2
    clear kr
    go_simp
    refine hK.out _ _ ?_
    exact ⟨true, true, true, true, true, true, true, true, ge, gf, cf, gu, gk, ck, rfl, by simp only [fillS, pickS_true, pickS_false, Act.put, zz7, zz8, zz9, zz10, zz11, zz1, zz2, zz3, zz4, zz5, zz6], (fun q28 => (by cases q28)), (fun p0 q3 q28 => (by cases q28)), (fun p3 q6 q28 => (by cases q28)), (fun p5 q28 => (by cases q28)), (fun p6 q28 => (by cases q28)), (fun p0 p5 q3 q28 => (by cases q28)), (fun p0 p6 q3 q28 => (by cases q28)), (fun p3 p5 q6 q28 => (by cases q28)), (fun p28 => ((((((Blk.below (FB.out rfl) Zru0 Kru0.out).set (by simp)).set (by simp)).set (by simp)).set (by simp)).set (by simp))), (fun p28 => ((((((Bu0.out.trans ((FB.out rfl).mono Bu0.out.size)).setCell (by dsimp only; omega) _).setCell (by dsimp only; omega) _).setCell (by dsimp only; omega) _).setCell (by dsimp only; omega) _).setCell (by dsimp only; omega) _)), (fun p28 => (World.ownsRow.mono (World.ownsRow.kept (FOk.out rfl rfl) (gb_set (gb_set (gb_set (gb_set (gb_set (World.grownBy.refl wi (some (w.heap.size + 1 + 1))) _ _) _ _) _ _) _ _) _ _) (.inr (fun e => by have h1 := own_base (FOk.out rfl rfl); have h2 := Zru0; simp [Value.ownBlock] at e; omega))) Bu0.out.size)), (fun p3 => (unhide FC3 p3)), (fun p6 => (unhide FC6 p6)), (fun p16 => (unhide FC16 p16)), (fun p21 => (unhide FC21 p21)), (fun p27 => (unhide FC27 p27)), (fun p28 => ⟨rfl, rfl, rfl, rfl, rfl, rfl, rfl⟩)⟩
 case fin =>
  rintro listed ai wi ⟨b0, b3, b5, b6, b16, b21, b27, b28, ge, gf, cf, gu, gk, ck, rfl, ha, FB, FOe, FOf, FKu, FOk, FNeu, FNek, FNfu, FP0, FP1, FP2, FC3, FC6, FC16, FC21, FC27, FC28⟩ hall
  obtain rfl : b0 = true := by
   have h9 := hall 0 _ rfl (by
    intro e he hbd
    simp at he
    )
   simpa using h9
  obtain rfl : b3 = true := by
   have h9 := hall 3 _ rfl (by
    intro e he hbd
    simp at he
    rcases he with rfl | rfl <;> simp
    )
   simpa using h9
  obtain rfl : b5 = true := by
   have h9 := hall 5 _ rfl (by
    intro e he hbd
    simp at he
    subst he
    simp
    )
   simpa using h9
  obtain rfl : b6 = true := by
   have h9 := hall 6 _ rfl (by
    intro e he hbd
    simp at he
    rcases he with rfl | rfl | rfl <;> simp
    )
   simpa using h9
  obtain rfl : b16 = true := by
   have h9 := hall 16 _ rfl (by
    intro e he hbd
    simp at he
    rcases he with rfl | rfl | rfl <;> simp
    )
   simpa using h9
  obtain rfl : b21 = true := by
   have h9 := hall 21 _ rfl (by
    intro e he hbd
    simp at he
    rcases he with rfl | rfl | rfl <;> simp
    )
   simpa using h9
  obtain rfl : b27 = true := by
   have h9 := hall 27 _ rfl (by
    intro e he hbd
    simp at he
    rcases he with rfl | rfl | rfl | rfl | rfl <;> simp
    )
   simpa using h9
  obtain rfl : b28 = true := by
   have h9 := hall 28 _ rfl (by
    intro e he hbd
    simp at he
    rcases he with rfl | rfl | rfl | rfl | rfl | rfl | rfl | rfl | rfl | rfl | rfl | rfl | rfl | rfl | rfl | rfl | rfl | rfl | rfl | rfl | rfl | rfl | rfl | rfl | rfl | rfl | rfl | rfl | rfl | rfl <;> simp
    )
   simpa using h9
  clear hall
  simp only [fillS, pickS_true, pickS_false, Act.put, zz7, zz8, zz9, zz10, zz11, zz1, zz2, zz3, zz4, zz5, zz6] at ha
  subst ha
  refine NoPanic.normal ?_
  have HP0 := hide (FP0.out rfl)
  have HP1 := hide (FP1.out rfl)
  have HP2 := hide (FP2.out rfl)
  clear FB FOe FOf FKu FOk FNeu FNek FNfu FP0 FP1 FP2 FC3 FC6 FC16 FC21 FC27 FC28
  have CC := unhide HP0
  have q0 := (CC 0 (by simp)).1
  have q1 := (CC 1 (by simp)).1
  have q2 := (CC 2 (by simp)).1
  have q3 := (CC 3 (by simp)).1
  have q4 := (CC 4 (by simp)).1
  simp only [List.getElem?_cons_zero, List.getElem?_cons_succ] at q0 q1 q2 q3 q4
  clear CC
  go_wp2_with fail
  refine bodyPost_ret (v := .agg #[.slice (some ⟨gk, 0, none⟩) (us.length + 1) ck, .int .i64 (sw + bw), .int .i64 (mx sd bd), .int .i64 (mx sh bh), .int .i64 (sg + bg)]) (by simp [results, Try.results43, go_sem, q0, q1, q2, q3, q4]) rfl ⟨gk, ck, rfl, ?_, unhide HP1⟩
  have h := unhide HP2
  unfold RowV.own
  dsimp only
  rw [List.length_append]
  exact h
set_option maxRecDepth 100000 in
set_option maxHeartbeats 4000000 in
theorem l10Add_zero (i : Int) (sw sd sh sg bw bd bh bg : Int) (w : World) (o0 : 0 ≤ sw) (o1 : sw ≤ 2000) (o2 : 0 ≤ sg) (o3 : sg ≤ 100000) (o4 : 0 ≤ bw) (o5 : bw ≤ 2000) (o6 : 0 ≤ bg) (o7 : bg ≤ 100000) :
 Calls Try.prog 43 #[.agg #[.slice none 0 0, .int .i64 sw, .int .i64 sd, .int .i64 sh, .int .i64 sg], .int .i64 i, .agg #[.int .i64 bw, .int .i64 bd, .int .i64 bh, .int .i64 bg]] w fun e w' => ∃ g cap, e = .returned (.agg #[.slice (some ⟨g, 0, none⟩) (1) cap, .int .i64 (sw + bw), .int .i64 (mx sd bd), .int .i64 (mx sh bh), .int .i64 (sg + bg)]) ∧ RowV.own w' w.heap.size ⟨g, cap, [] ++ [i]⟩ ∧ Below w.heap.size w w' := by
 obtain ⟨i0, hi, hz0, hz1, hz2⟩ := info_parts Try.infoInt
 go_enter Try.func43, Try.ntmps43
 go_upto_region 1 with fail
 generalize hW : (((w.alloc (.cells #[.slice none 0 0, .int .i64 sw, .int .i64 sd, .int .i64 sh, .int .i64 sg] 51)).alloc (.cells #[.int .i64 bw, .int .i64 bd, .int .i64 bh, .int .i64 bg] 52)).alloc (.cells #[.slice none 0 0, .int .i64 0, .int .i64 0, .int .i64 0, .int .i64 0] 51)) = W at *
 obtain ⟨BW, KsW, ZsW, KbW, ZbW, KrW, ZrW⟩ := en3 hW
 have Gs : w.heap.size ≤ w.heap.size := by omega
 have Gb : w.heap.size ≤ (w.heap.size + 1) := by omega
 have Nqsb : w.heap.size ≠ (w.heap.size + 1) := by omega
 have Nqbs : (w.heap.size + 1) ≠ w.heap.size := by omega
 have Gr : w.heap.size ≤ (w.heap.size + 1 + 1) := by omega
 have Nqsr : w.heap.size ≠ (w.heap.size + 1 + 1) := by omega
 have Nqrs : (w.heap.size + 1 + 1) ≠ w.heap.size := by omega
 have Nqbr : (w.heap.size + 1) ≠ (w.heap.size + 1 + 1) := by omega
 have Nqrb : (w.heap.size + 1 + 1) ≠ (w.heap.size + 1) := by omega
 clear hW
 refine wp_region_noPanic ?_
 have Bu0 : Hid (Below w.heap.size w W.drew) := BW.out.drew
 have Ksu0 : Hid (Blk W.drew w.heap.size [.slice none 0 0, .int .i64 sw, .int .i64 sd, .int .i64 sh, .int .i64 sg]) := unhide KsW
 have Zsu0 : w.heap.size < W.drew.heap.size := ZsW
 have Kbu0 : Hid (Blk W.drew (w.heap.size + 1) [.int .i64 bw, .int .i64 bd, .int .i64 bh, .int .i64 bg]) := unhide KbW
 have Zbu0 : (w.heap.size + 1) < W.drew.heap.size := ZbW
 have Kru0 : Hid (Blk W.drew (w.heap.size + 1 + 1) [.slice none 0 0, .int .i64 0, .int .i64 0, .int .i64 0, .int .i64 0]) := unhide KrW
 have Zru0 : (w.heap.size + 1 + 1) < W.drew.heap.size := ZrW
 obtain ⟨S, hSdef⟩ : ∃ S : World → Prop, S = (fun w' => w'.cell? ⟨w.heap.size, 0, none⟩ = some (.slice none 0 0) ∧ w'.cell? ⟨w.heap.size, 1, none⟩ = some (.int .i64 sw) ∧ w'.cell? ⟨w.heap.size, 2, none⟩ = some (.int .i64 sd) ∧ w'.cell? ⟨w.heap.size, 3, none⟩ = some (.int .i64 sh) ∧ w'.cell? ⟨w.heap.size, 4, none⟩ = some (.int .i64 sg) ∧ w'.cell? ⟨(w.heap.size + 1), 0, none⟩ = some (.int .i64 bw) ∧ w'.cell? ⟨(w.heap.size + 1), 1, none⟩ = some (.int .i64 bd) ∧ w'.cell? ⟨(w.heap.size + 1), 2, none⟩ = some (.int .i64 bh) ∧ w'.cell? ⟨(w.heap.size + 1), 3, none⟩ = some (.int .i64 bg)) := ⟨_, rfl⟩
 have hSmk : ∀ wq, Blk wq w.heap.size [.slice none 0 0, .int .i64 sw, .int .i64 sd, .int .i64 sh, .int .i64 sg] → Blk wq (w.heap.size + 1) [.int .i64 bw, .int .i64 bd, .int .i64 bh, .int .i64 bg] → S wq := fun wq ks kb => by rw [hSdef]; exact ⟨(ks 0 (by simp)).1, (ks 1 (by simp)).1, (ks 2 (by simp)).1, (ks 3 (by simp)).1, (ks 4 (by simp)).1, (kb 0 (by simp)).1, (kb 1 (by simp)).1, (kb 2 (by simp)).1, (kb 3 (by simp)).1⟩
 have hSd : ∀ wq, S wq → (fun w' => w'.cell? ⟨w.heap.size, 0, none⟩ = some (.slice none 0 0) ∧ w'.cell? ⟨w.heap.size, 1, none⟩ = some (.int .i64 sw) ∧ w'.cell? ⟨w.heap.size, 2, none⟩ = some (.int .i64 sd) ∧ w'.cell? ⟨w.heap.size, 3, none⟩ = some (.int .i64 sh) ∧ w'.cell? ⟨w.heap.size, 4, none⟩ = some (.int .i64 sg) ∧ w'.cell? ⟨(w.heap.size + 1), 0, none⟩ = some (.int .i64 bw) ∧ w'.cell? ⟨(w.heap.size + 1), 1, none⟩ = some (.int .i64 bd) ∧ w'.cell? ⟨(w.heap.size + 1), 2, none⟩ = some (.int .i64 bh) ∧ w'.cell? ⟨(w.heap.size + 1), 3, none⟩ = some (.int .i64 bg)) wq := fun wq h => by rw [hSdef] at h; exact h
 clear hSdef
 have hHeld : S W.drew := hSmk W.drew Ksu0.out Kbu0.out
 refine wp_region_to (S := S) (T := [28]) (by kernel_rfl) hHeld (fun _ => ?_)
 generalize W.drew = u0 at *
 refine wpTo_ts (i := 1) (v := ?_) rfl (by kernel_rfl) hSd (by rfl) (fun w hSw => ?_) (by assumption) ?_
 rotate_left
 · ((try dsimp only [RqC] at hSw); go_simp <;> with_reducible rfl)
 refine wpTo_ts (i := 2) (v := ?_) rfl (by kernel_rfl) hSd (by rfl) (fun w hSw => ?_) (by assumption) ?_
 rotate_left
 · ((try dsimp only [RqC] at hSw); go_simp <;> with_reducible rfl)
 refine wpTo_ts (i := 4) (v := ?_) rfl (by kernel_rfl) hSd (by rfl) (fun w hSw => ?_) (by assumption) ?_
 rotate_left
 · ((try dsimp only [RqC] at hSw); go_simp <;> with_reducible rfl)
 refine wpTo_ts (i := 7) (v := ?_) rfl (by kernel_rfl) hSd (by rfl) (fun w hSw => ?_) (by assumption) ?_
 rotate_left
 · ((try dsimp only [RqC] at hSw); go_simp <;> with_reducible rfl)
 refine wpTo_ts (i := 8) (v := ?_) rfl (by kernel_rfl) hSd (by rfl) (fun w hSw => ?_) (by assumption) ?_
 rotate_left
 · ((try dsimp only [RqC] at hSw); go_simp <;> with_reducible rfl)
 refine wpTo_ts (i := 9) (v := ?_) rfl (by kernel_rfl) hSd (by rfl) (fun w hSw => ?_) (by assumption) ?_
 rotate_left
 · ((try dsimp only [RqC] at hSw); go_simp <;> with_reducible rfl)
 refine wpTo_ts (i := 10) (v := ?_) rfl (by kernel_rfl) hSd (by rfl) (fun w hSw => ?_) (by assumption) ?_
 rotate_left
 · ((try dsimp only [RqC] at hSw); go_simp <;> with_reducible rfl)
 refine wpTo_ts (i := 11) (v := ?_) rfl (by kernel_rfl) hSd (by rfl) (fun w hSw => ?_) (by assumption) ?_
 rotate_left
 · ((try dsimp only [RqC] at hSw); go_simp <;> with_reducible rfl)
 try simp only [Act.put, zz1, zz2, zz3, zz4, zz5, zz6]
 rw [wrap_fits (x := sw + bw) (by omega) (by omega)]
 refine wpTo_ts (i := 12) (v := ?_) rfl (by kernel_rfl) hSd (by rfl) (fun w hSw => ?_) (by assumption) ?_
 rotate_left
 · ((try dsimp only [RqC] at hSw); go_simp <;> with_reducible rfl)
 try simp only [Act.put, zz1, zz2, zz3, zz4, zz5, zz6]
 refine wpTo_ts (i := 13) (v := ?_) rfl (by kernel_rfl) hSd (by rfl) (fun w hSw => ?_) (by assumption) ?_
 rotate_left
 · ((try dsimp only [RqC] at hSw); go_simp <;> with_reducible rfl)
 refine wpTo_ts (i := 14) (v := ?_) rfl (by kernel_rfl) hSd (by rfl) (fun w hSw => ?_) (by assumption) ?_
 rotate_left
 · ((try dsimp only [RqC] at hSw); go_simp <;> with_reducible rfl)
 refine wpTo_ts (i := 15) (v := ?_) rfl (by kernel_rfl) hSd (by rfl) (fun w hSw => ?_) (by assumption) ?_
 rotate_left
 · ((try dsimp only [RqC] at hSw); go_simp <;> with_reducible rfl)
 refine wpTo_ts (i := 17) (v := ?_) rfl (by kernel_rfl) hSd (by rfl) (fun w hSw => ?_) (by assumption) ?_
 rotate_left
 · ((try dsimp only [RqC] at hSw); go_simp <;> with_reducible rfl)
 refine wpTo_ts (i := 18) (v := ?_) rfl (by kernel_rfl) hSd (by rfl) (fun w hSw => ?_) (by assumption) ?_
 rotate_left
 · ((try dsimp only [RqC] at hSw); go_simp <;> with_reducible rfl)
 refine wpTo_ts (i := 19) (v := ?_) rfl (by kernel_rfl) hSd (by rfl) (fun w hSw => ?_) (by assumption) ?_
 rotate_left
 · ((try dsimp only [RqC] at hSw); go_simp <;> with_reducible rfl)
 refine wpTo_ts (i := 20) (v := ?_) rfl (by kernel_rfl) hSd (by rfl) (fun w hSw => ?_) (by assumption) ?_
 rotate_left
 · ((try dsimp only [RqC] at hSw); go_simp <;> with_reducible rfl)
 refine wpTo_ts (i := 22) (v := ?_) rfl (by kernel_rfl) hSd (by rfl) (fun w hSw => ?_) (by assumption) ?_
 rotate_left
 · ((try dsimp only [RqC] at hSw); go_simp <;> with_reducible rfl)
 refine wpTo_ts (i := 23) (v := ?_) rfl (by kernel_rfl) hSd (by rfl) (fun w hSw => ?_) (by assumption) ?_
 rotate_left
 · ((try dsimp only [RqC] at hSw); go_simp <;> with_reducible rfl)
 try simp only [Act.put, zz1, zz2, zz3, zz4, zz5, zz6]
 refine wpTo_ts (i := 24) (v := ?_) rfl (by kernel_rfl) hSd (by rfl) (fun w hSw => ?_) (by assumption) ?_
 rotate_left
 · ((try dsimp only [RqC] at hSw); go_simp <;> with_reducible rfl)
 refine wpTo_ts (i := 25) (v := ?_) rfl (by kernel_rfl) hSd (by rfl) (fun w hSw => ?_) (by assumption) ?_
 rotate_left
 · ((try dsimp only [RqC] at hSw); go_simp <;> with_reducible rfl)
 refine wpTo_ts (i := 26) (v := ?_) rfl (by kernel_rfl) hSd (by rfl) (fun w hSw => ?_) (by assumption) ?_
 rotate_left
 · ((try dsimp only [RqC] at hSw); go_simp <;> with_reducible rfl)
 try simp only [Act.put, zz1, zz2, zz3, zz4, zz5, zz6]
 rw [wrap_fits (x := sg + bg) (by omega) (by omega)]
 try simp only [Act.put, zz1, zz2, zz3, zz4, zz5, zz6]
 refine wpTo_inv (fun a0 listed ai wi => ∃ (b0 b3 b5 b6 b16 b21 b27 b28 : Bool) (ge gu gk ck : Nat), listed = #[b0, true, true, b3, true, b5, b6, true, true, true, true, true, true, true, true, true, b16, true, true, true, true, b21, true, true, true, true, true, b27, b28] ∧ ai = fillS b27 34 (.agg #[.slice (some ⟨gk, 0, none⟩) 1 ck, .int .i64 (sw + bw), .int .i64 (mx sd bd), .int .i64 (mx sh bh), .int .i64 (sg + bg)]) (fillS b21 28 (.int .i64 (mx sh bh)) (fillS b16 23 (.int .i64 (mx sd bd)) (fillS b6 13 (.slice (some ⟨gk, 0, none⟩) (1) ck) (fillS b5 12 (.slice (some ⟨gu, 0, none⟩) 1 1) (fillS b3 10 (.slice (some ⟨ge, 0, none⟩) 0 0) (fillS b0 7 (.slice (some ⟨ge, 0, none⟩) 0 0) (a0))))))) ∧ Hid (Fk b28 → Below u0.heap.size u0 wi) ∧ Hid (Tk b0 → Fk b6 → Fk b28 → wi.ownsRow u0.heap.size 3 1 (.slice (some ⟨ge, 0, none⟩) (0) 0) (0) ([])) ∧ Hid (Tk b5 → Fk b28 → Blk wi gu [.int .i64 i] ∧ gu < wi.heap.size ∧ u0.heap.size ≤ gu) ∧ Hid (Tk b6 → Fk b28 → wi.ownsRow u0.heap.size 3 1 (.slice (some ⟨gk, 0, none⟩) (1) ck) (1) (([] ++ [i]).map (Value.int .i64))) ∧ Hid (Tk b0 → Tk b5 → Fk b6 → Fk b28 → ge ≠ gu) ∧ Hid (Tk b28 → Blk wi (w.heap.size + 1 + 1) [.slice (some ⟨gk, 0, none⟩) 1 ck, .int .i64 (sw + bw), .int .i64 (mx sd bd), .int .i64 (mx sh bh), .int .i64 (sg + bg)]) ∧ Hid (Tk b28 → Below w.heap.size w wi) ∧ Hid (Tk b28 → wi.ownsRow w.heap.size 3 1 (.slice (some ⟨gk, 0, none⟩) 1 ck) (1) (([] ++ [i]).map (Value.int .i64))) ∧ Hid (Tk b3 → Tk b0) ∧ Hid (Tk b6 → Tk b0 ∧ Tk b3 ∧ Tk b5) ∧ Hid (Tk b16 → Tk b0 ∧ Tk b3 ∧ Tk b5 ∧ Tk b6) ∧ Hid (Tk b21 → Tk b0 ∧ Tk b3 ∧ Tk b5 ∧ Tk b6 ∧ Tk b16) ∧ Hid (Tk b27 → Tk b0 ∧ Tk b3 ∧ Tk b5 ∧ Tk b6 ∧ Tk b16 ∧ Tk b21) ∧ Hid (Tk b28 → Tk b0 ∧ Tk b3 ∧ Tk b5 ∧ Tk b6 ∧ Tk b16 ∧ Tk b21 ∧ Tk b27)) ⟨false, false, false, false, false, false, false, false, 0, 0, 0, 0, rfl, by simp only [fillS_false], (fun _ => Below.refl _ _), (fun h _ _ => by cases h), (fun h _ => by cases h), (fun h _ => by cases h), (fun h _ _ _ => by cases h), (fun h => by cases h), (fun h => by cases h), (fun h => by cases h), (fun h => by cases h), (fun h => by cases h), (fun h => by cases h), (fun h => by cases h), (fun h => by cases h), (fun h => by cases h)⟩ ?hS ?hT ?step ?fin _ (by decide)
 case hS =>
  rintro listed ai wi ⟨b0, b3, b5, b6, b16, b21, b27, b28, ge, gu, gk, ck, rfl, ha, FB, FOe, FKu, FOk, FNeu, FP0, FP1, FP2, FC3, FC6, FC16, FC21, FC27, FC28⟩ hTf
  exact hSmk wi (Blk.below (FB.out (by have h7 := hTf 28 (by simp); simpa [Fk] using h7)) Zsu0 Ksu0.out) (Blk.below (FB.out (by have h7 := hTf 28 (by simp); simpa [Fk] using h7)) Zbu0 Kbu0.out)
 case hT =>
  rintro listed ai wi ⟨b0, b3, b5, b6, b16, b21, b27, b28, ge, gu, gk, ck, rfl, ha, FB, FOe, FKu, FOk, FNeu, FP0, FP1, FP2, FC3, FC6, FC16, FC21, FC27, FC28⟩ f hf hlf
  obtain rfl : f = 28 := by simpa using hf
  obtain rfl : b28 = true := by simpa using hlf
  obtain ⟨rfl, rfl, rfl, rfl, rfl, rfl, rfl⟩ := FC28.out rfl
  decide
 case step =>
  rintro listed ai wi i o ⟨b0, b3, b5, b6, b16, b21, b27, b28, ge, gu, gk, ck, rfl, ha, FB, FOe, FKu, FOk, FNeu, FP0, FP1, FP2, FC3, FC6, FC16, FC21, FC27, FC28⟩ ho hl hall
  have hi : i < 29 := (Array.getElem?_eq_some_iff.1 ho).1
  obtain rfl | rfl | rfl | rfl | rfl | rfl | rfl | rfl | rfl | rfl | rfl | rfl | rfl | rfl | rfl | rfl | rfl | rfl | rfl | rfl | rfl | rfl | rfl | rfl | rfl | rfl | rfl | rfl | rfl : i = 0 ∨ i = 1 ∨ i = 2 ∨ i = 3 ∨ i = 4 ∨ i = 5 ∨ i = 6 ∨ i = 7 ∨ i = 8 ∨ i = 9 ∨ i = 10 ∨ i = 11 ∨ i = 12 ∨ i = 13 ∨ i = 14 ∨ i = 15 ∨ i = 16 ∨ i = 17 ∨ i = 18 ∨ i = 19 ∨ i = 20 ∨ i = 21 ∨ i = 22 ∨ i = 23 ∨ i = 24 ∨ i = 25 ∨ i = 26 ∨ i = 27 ∨ i = 28 := by omega
  · obtain rfl := Option.some.inj ho
    obtain rfl : b0 = false := by simpa using hl
    obtain rfl : b3 = false := Tk_no (fun p => by have h8 := FC3.out p; simp [Tk] at h8)
    obtain rfl : b6 = false := Tk_no (fun p => by have h8 := FC6.out p; simp [Tk] at h8)
    obtain rfl : b16 = false := Tk_no (fun p => by have h8 := FC16.out p; simp [Tk] at h8)
    obtain rfl : b21 = false := Tk_no (fun p => by have h8 := FC21.out p; simp [Tk] at h8)
    obtain rfl : b27 = false := Tk_no (fun p => by have h8 := FC27.out p; simp [Tk] at h8)
    obtain rfl : b28 = false := Tk_no (fun p => by have h8 := FC28.out p; simp [Tk] at h8)
    clear ho hl hall hi
    simp only [fillS, pickS_true, pickS_false, Act.put, zz7, zz8, zz9, zz10, zz11, zz1, zz2, zz3, zz4, zz5, zz6] at ha
    subst ha
    refine wpOp_stepS (o := _) rfl (fun K hK => ?_)
    go_simp
    refine hK.out _ _ ?_
    exact ⟨true, false, b5, false, false, false, false, false, wi.heap.size, gu, gk, ck, rfl, by simp only [fillS, pickS_true, pickS_false, Act.put, zz7, zz8, zz9, zz10, zz11, zz1, zz2, zz3, zz4, zz5, zz6], (fun q28 => ((unhide FB q28).alloc (unhide FB q28).size _)), (fun p0 q6 q28 => own_lit0 wi (FB.out rfl).size), (fun p5 q28 => ⟨(unhide FKu p5 q28).1.allocOld (unhide FKu p5 q28).2.1 _, lt_alloc (unhide FKu p5 q28).2.1 _, (unhide FKu p5 q28).2.2⟩), (fun p6 q28 => (by cases p6)), (fun p0 p5 q6 q28 => (Ne.symm ((Nat.ne_of_lt (unhide FKu p5 q28).2.1)))), (fun p28 => (by cases p28)), (fun p28 => (by cases p28)), (fun p28 => (by cases p28)), (fun p3 => (by cases p3)), (fun p6 => (by cases p6)), (fun p16 => (by cases p16)), (fun p21 => (by cases p21)), (fun p27 => (by cases p27)), (fun p28 => (by cases p28))⟩
  · exact absurd hl (by simp)
  · exact absurd hl (by simp)
  · obtain rfl := Option.some.inj ho
    obtain rfl : b3 = false := by simpa using hl
    obtain rfl : b0 = true := by simpa using hall ⟨0, .data⟩ (by simp) rfl
    obtain rfl : b6 = false := Tk_no (fun p => by have h8 := FC6.out p; simp [Tk] at h8)
    obtain rfl : b16 = false := Tk_no (fun p => by have h8 := FC16.out p; simp [Tk] at h8)
    obtain rfl : b21 = false := Tk_no (fun p => by have h8 := FC21.out p; simp [Tk] at h8)
    obtain rfl : b27 = false := Tk_no (fun p => by have h8 := FC27.out p; simp [Tk] at h8)
    obtain rfl : b28 = false := Tk_no (fun p => by have h8 := FC28.out p; simp [Tk] at h8)
    clear ho hl hall hi
    simp only [fillS, pickS_true, pickS_false, Act.put, zz7, zz8, zz9, zz10, zz11, zz1, zz2, zz3, zz4, zz5, zz6] at ha
    subst ha
    refine wpOp_stepS (o := _) rfl (fun K hK => ?_)
    refine step_append_nil _ (by rfl) _ _ 49 (by rfl) u0.heap.size 3 i0 8 Try.underlying49 hi (.slice (some ⟨ge, 0, none⟩) 0 0) 0 [] (by rfl) (FOe.out rfl rfl rfl) (by rfl) ?_
    refine hK.out _ _ ?_
    exact ⟨true, true, b5, false, false, false, false, false, ge, gu, gk, ck, rfl, by simp only [fillS, pickS_true, pickS_false, Act.put, zz7, zz8, zz9, zz10, zz11, zz1, zz2, zz3, zz4, zz5, zz6], (fun q28 => (unhide FB q28)), (fun p0 q6 q28 => (unhide FOe p0 q6 q28)), (fun p5 q28 => (unhide FKu p5 q28)), (fun p6 q28 => (by cases p6)), (fun p0 p5 q6 q28 => (unhide FNeu p0 p5 q6 q28)), (fun p28 => (by cases p28)), (fun p28 => (by cases p28)), (fun p28 => (by cases p28)), (fun p3 => rfl), (fun p6 => (by cases p6)), (fun p16 => (by cases p16)), (fun p21 => (by cases p21)), (fun p27 => (by cases p27)), (fun p28 => (by cases p28))⟩
  · exact absurd hl (by simp)
  · obtain rfl := Option.some.inj ho
    obtain rfl : b5 = false := by simpa using hl
    obtain rfl : b6 = false := Tk_no (fun p => by have h8 := FC6.out p; simp [Tk] at h8)
    obtain rfl : b16 = false := Tk_no (fun p => by have h8 := FC16.out p; simp [Tk] at h8)
    obtain rfl : b21 = false := Tk_no (fun p => by have h8 := FC21.out p; simp [Tk] at h8)
    obtain rfl : b27 = false := Tk_no (fun p => by have h8 := FC27.out p; simp [Tk] at h8)
    obtain rfl : b28 = false := Tk_no (fun p => by have h8 := FC28.out p; simp [Tk] at h8)
    clear ho hl hall hi
    simp only [fillS, pickS_true, pickS_false, Act.put, zz7, zz8, zz9, zz10, zz11, zz1, zz2, zz3, zz4, zz5, zz6] at ha
    subst ha
    refine wpOp_stepS (o := _) rfl (fun K hK => ?_)
    go_simp
    refine hK.out _ _ ?_
    exact ⟨b0, b3, true, false, false, false, false, false, ge, wi.heap.size, gk, ck, rfl, by simp only [fillS, pickS_true, pickS_false, Act.put, zz7, zz8, zz9, zz10, zz11, zz1, zz2, zz3, zz4, zz5, zz6], (fun q28 => ((unhide FB q28).alloc (unhide FB q28).size _)), (fun p0 q6 q28 => ((unhide FOe p0 q6 q28).alloc _)), (fun p5 q28 => ⟨Blk.allocAt [.int .i64 i] (by rfl), lt_alloc_new wi _, (FB.out rfl).size⟩), (fun p6 q28 => (by cases p6)), (fun p0 p5 q6 q28 => (Nat.ne_of_lt ((unhide FOe p0 q6 q28).lt _ rfl).2)), (fun p28 => (by cases p28)), (fun p28 => (by cases p28)), (fun p28 => (by cases p28)), (fun p3 => (unhide FC3 p3)), (fun p6 => (by cases p6)), (fun p16 => (by cases p16)), (fun p21 => (by cases p21)), (fun p27 => (by cases p27)), (fun p28 => (by cases p28))⟩
  · obtain rfl := Option.some.inj ho
    obtain rfl : b6 = false := by simpa using hl
    obtain rfl : b3 = true := by simpa using hall ⟨3, .data⟩ (by simp) rfl
    obtain rfl := FC3.out rfl
    obtain rfl : b5 = true := by simpa using hall ⟨5, .data⟩ (by simp) rfl
    obtain rfl : b16 = false := Tk_no (fun p => by have h8 := FC16.out p; simp [Tk] at h8)
    obtain rfl : b21 = false := Tk_no (fun p => by have h8 := FC21.out p; simp [Tk] at h8)
    obtain rfl : b27 = false := Tk_no (fun p => by have h8 := FC27.out p; simp [Tk] at h8)
    obtain rfl : b28 = false := Tk_no (fun p => by have h8 := FC28.out p; simp [Tk] at h8)
    clear ho hl hall hi
    simp only [fillS, pickS_true, pickS_false, Act.put, zz7, zz8, zz9, zz10, zz11, zz1, zz2, zz3, zz4, zz5, zz6] at ha
    subst ha
    have hsrc := FOe.out rfl rfl rfl
    refine wpOp_stepS (o := _) rfl (fun K hK => ?_)
    refine step_append_some _ (by rfl) _ _ 49 (by rfl) u0.heap.size 3 i0 (.int .i64 0) 1 8 Try.underlying49 hi hz0 hz1 hz2 rfl (by omega) (.slice (some ⟨ge, 0, none⟩) (0) 0) (0) ([]) (by rfl) hsrc (by simp) ⟨gu, 0, none⟩ (1) (1) ([.int .i64 i]) (by rfl) rfl ((FKu.out rfl rfl).1).news (by simp [Value.oneCell']) (by unfold maxLen; omega) (by omega) (FB.out rfl).size ?_
    intro gnew cnew wz hown hg hat hlt
    rw [show ([] : List Value) ++ [.int .i64 i] = ([] ++ [i]).map (Value.int .i64) from rfl] at hown
    refine hK.out _ _ ?_
    exact ⟨true, true, true, true, false, false, false, false, ge, gu, gnew, cnew, rfl, by simp only [fillS, pickS_true, pickS_false, Act.put, zz7, zz8, zz9, zz10, zz11, zz1, zz2, zz3, zz4, zz5, zz6], (fun q28 => ((unhide FB q28).grown hg (unhide FB q28).size (fun b hb => by have := own_base hsrc; simp [Value.ownBlock] at hb; omega))), (fun p0 q6 q28 => (by cases q6)), (fun p5 q28 => ⟨Blk.gb (unhide FKu p5 q28).1 hg (unhide FKu p5 q28).2.1 (Ne.symm (unhide FNeu rfl p5 rfl q28)), Nat.lt_of_lt_of_le (unhide FKu p5 q28).2.1 hg.size, (unhide FKu p5 q28).2.2⟩), (fun p6 q28 => hown), (fun p0 p5 q6 q28 => (by cases q6)), (fun p28 => (by cases p28)), (fun p28 => (by cases p28)), (fun p28 => (by cases p28)), (fun p3 => (unhide FC3 p3)), (fun p6 => ⟨rfl, rfl, rfl⟩), (fun p16 => (by cases p16)), (fun p21 => (by cases p21)), (fun p27 => (by cases p27)), (fun p28 => (by cases p28))⟩
  · exact absurd hl (by simp)
  · exact absurd hl (by simp)
  · exact absurd hl (by simp)
  · exact absurd hl (by simp)
  · exact absurd hl (by simp)
  · exact absurd hl (by simp)
  · exact absurd hl (by simp)
  · exact absurd hl (by simp)
  · exact absurd hl (by simp)
  · obtain rfl := Option.some.inj ho
    obtain rfl : b16 = false := by simpa using hl
    obtain rfl : b6 = true := by simpa using hall ⟨6, .chain⟩ (by simp) rfl
    obtain ⟨rfl, rfl, rfl⟩ := FC6.out rfl
    obtain rfl : b21 = false := Tk_no (fun p => by have h8 := FC21.out p; simp [Tk] at h8)
    obtain rfl : b27 = false := Tk_no (fun p => by have h8 := FC27.out p; simp [Tk] at h8)
    obtain rfl : b28 = false := Tk_no (fun p => by have h8 := FC28.out p; simp [Tk] at h8)
    clear ho hl hall hi
    simp only [fillS, pickS_true, pickS_false, Act.put, zz7, zz8, zz9, zz10, zz11, zz1, zz2, zz3, zz4, zz5, zz6] at ha
    subst ha
    refine wpOp_stepS (o := _) rfl (fun K hK => ?_)
    go_simp
    refine (l1Max_any _ _ wi).mono ?_
    rintro e wz ⟨rfl, hwz⟩
    subst wz
    go_wp2_with fail
    refine hK.out _ _ ?_
    exact ⟨true, true, true, true, true, false, false, false, ge, gu, gk, ck, rfl, by simp only [fillS, pickS_true, pickS_false, Act.put, zz7, zz8, zz9, zz10, zz11, zz1, zz2, zz3, zz4, zz5, zz6], (fun q28 => (unhide FB q28)), (fun p0 q6 q28 => (by cases q6)), (fun p5 q28 => (unhide FKu p5 q28)), (fun p6 q28 => (unhide FOk p6 q28)), (fun p0 p5 q6 q28 => (by cases q6)), (fun p28 => (by cases p28)), (fun p28 => (by cases p28)), (fun p28 => (by cases p28)), (fun p3 => (unhide FC3 p3)), (fun p6 => (unhide FC6 p6)), (fun p16 => ⟨rfl, rfl, rfl, rfl⟩), (fun p21 => (by cases p21)), (fun p27 => (by cases p27)), (fun p28 => (by cases p28))⟩
  · exact absurd hl (by simp)
  · exact absurd hl (by simp)
  · exact absurd hl (by simp)
  · exact absurd hl (by simp)
  · obtain rfl := Option.some.inj ho
    obtain rfl : b21 = false := by simpa using hl
    obtain rfl : b16 = true := by simpa using hall ⟨16, .chain⟩ (by simp) rfl
    obtain ⟨rfl, rfl, rfl, rfl⟩ := FC16.out rfl
    obtain rfl : b27 = false := Tk_no (fun p => by have h8 := FC27.out p; simp [Tk] at h8)
    obtain rfl : b28 = false := Tk_no (fun p => by have h8 := FC28.out p; simp [Tk] at h8)
    clear ho hl hall hi
    simp only [fillS, pickS_true, pickS_false, Act.put, zz7, zz8, zz9, zz10, zz11, zz1, zz2, zz3, zz4, zz5, zz6] at ha
    subst ha
    refine wpOp_stepS (o := _) rfl (fun K hK => ?_)
    go_simp
    refine (l1Max_any _ _ wi).mono ?_
    rintro e wz ⟨rfl, hwz⟩
    subst wz
    go_wp2_with fail
    refine hK.out _ _ ?_
    exact ⟨true, true, true, true, true, true, false, false, ge, gu, gk, ck, rfl, by simp only [fillS, pickS_true, pickS_false, Act.put, zz7, zz8, zz9, zz10, zz11, zz1, zz2, zz3, zz4, zz5, zz6], (fun q28 => (unhide FB q28)), (fun p0 q6 q28 => (by cases q6)), (fun p5 q28 => (unhide FKu p5 q28)), (fun p6 q28 => (unhide FOk p6 q28)), (fun p0 p5 q6 q28 => (by cases q6)), (fun p28 => (by cases p28)), (fun p28 => (by cases p28)), (fun p28 => (by cases p28)), (fun p3 => (unhide FC3 p3)), (fun p6 => (unhide FC6 p6)), (fun p16 => (unhide FC16 p16)), (fun p21 => ⟨rfl, rfl, rfl, rfl, rfl⟩), (fun p27 => (by cases p27)), (fun p28 => (by cases p28))⟩
  · exact absurd hl (by simp)
  · exact absurd hl (by simp)
  · exact absurd hl (by simp)
  · exact absurd hl (by simp)
  · exact absurd hl (by simp)
  · obtain rfl := Option.some.inj ho
    obtain rfl : b27 = false := by simpa using hl
    obtain rfl : b6 = true := by simpa using hall ⟨6, .data⟩ (by simp) rfl
    obtain ⟨rfl, rfl, rfl⟩ := FC6.out rfl
    obtain rfl : b16 = true := by simpa using hall ⟨16, .data⟩ (by simp) rfl
    obtain rfl : b21 = true := by simpa using hall ⟨21, .data⟩ (by simp) rfl
    obtain rfl : b28 = false := Tk_no (fun p => by have h8 := FC28.out p; simp [Tk] at h8)
    clear ho hl hall hi
    simp only [fillS, pickS_true, pickS_false, Act.put, zz7, zz8, zz9, zz10, zz11, zz1, zz2, zz3, zz4, zz5, zz6] at ha
    subst ha
    refine wpOp_stepS (o := _) rfl (fun K hK => ?_)
    go_simp
    refine hK.out _ _ ?_
    exact ⟨true, true, true, true, true, true, true, false, ge, gu, gk, ck, rfl, by simp only [fillS, pickS_true, pickS_false, Act.put, zz7, zz8, zz9, zz10, zz11, zz1, zz2, zz3, zz4, zz5, zz6], (fun q28 => (unhide FB q28)), (fun p0 q6 q28 => (by cases q6)), (fun p5 q28 => (unhide FKu p5 q28)), (fun p6 q28 => (unhide FOk p6 q28)), (fun p0 p5 q6 q28 => (by cases q6)), (fun p28 => (by cases p28)), (fun p28 => (by cases p28)), (fun p28 => (by cases p28)), (fun p3 => (unhide FC3 p3)), (fun p6 => (unhide FC6 p6)), (fun p16 => (unhide FC16 p16)), (fun p21 => (unhide FC21 p21)), (fun p27 => ⟨rfl, rfl, rfl, rfl, rfl, rfl⟩), (fun p28 => (by cases p28))⟩
  · obtain rfl := Option.some.inj ho
    obtain rfl : b28 = false := by simpa using hl
    obtain rfl : b27 = true := by simpa using hall ⟨27, .data⟩ (by simp) rfl
    obtain ⟨rfl, rfl, rfl, rfl, rfl, rfl⟩ := FC27.out rfl
    clear ho hl hall hi
    simp only [fillS, pickS_true, pickS_false, Act.put, zz7, zz8, zz9, zz10, zz11, zz1, zz2, zz3, zz4, zz5, zz6] at ha
    subst ha
    refine wpOp_stepS (o := _) rfl (fun K hK => ?_)
    go_simp
    have kr := (Blk.below (FB.out rfl) Zru0 Kru0.out)
    have p0 := (kr 0 (by simp)).1
    have q0 := (kr 0 (by simp)).2
    have p1 := (kr 1 (by simp)).1
    have q1 := (kr 1 (by simp)).2
    have p2 := (kr 2 (by simp)).1
    have q2 := (kr 2 (by simp)).2
    have p3 := (kr 3 (by simp)).1
    have q3 := (kr 3 (by simp)).2
    have p4 := (kr 4 (by simp)).1
    have q4 := (kr 4 (by simp)).2
    clear kr
    go_simp
    refine hK.out _ _ ?_
    exact ⟨true, true, true, true, true, true, true, true, ge, gu, gk, ck, rfl, by simp only [fillS, pickS_true, pickS_false, Act.put, zz7, zz8, zz9, zz10, zz11, zz1, zz2, zz3, zz4, zz5, zz6], (fun q28 => (by cases q28)), (fun p0 q6 q28 => (by cases q28)), (fun p5 q28 => (by cases q28)), (fun p6 q28 => (by cases q28)), (fun p0 p5 q6 q28 => (by cases q28)), (fun p28 => ((((((Blk.below (FB.out rfl) Zru0 Kru0.out).set (by simp)).set (by simp)).set (by simp)).set (by simp)).set (by simp))), (fun p28 => ((((((Bu0.out.trans ((FB.out rfl).mono Bu0.out.size)).setCell (by dsimp only; omega) _).setCell (by dsimp only; omega) _).setCell (by dsimp only; omega) _).setCell (by dsimp only; omega) _).setCell (by dsimp only; omega) _)), (fun p28 => (World.ownsRow.mono (World.ownsRow.kept (FOk.out rfl rfl) (gb_set (gb_set (gb_set (gb_set (gb_set (World.grownBy.refl wi (some (w.heap.size + 1 + 1))) _ _) _ _) _ _) _ _) _ _) (.inr (fun e => by have h1 := own_base (FOk.out rfl rfl); have h2 := Zru0; simp [Value.ownBlock] at e; omega))) Bu0.out.size)), (fun p3 => (unhide FC3 p3)), (fun p6 => (unhide FC6 p6)), (fun p16 => (unhide FC16 p16)), (fun p21 => (unhide FC21 p21)), (fun p27 => (unhide FC27 p27)), (fun p28 => ⟨rfl, rfl, rfl, rfl, rfl, rfl, rfl⟩)⟩
 case fin =>
  rintro listed ai wi ⟨b0, b3, b5, b6, b16, b21, b27, b28, ge, gu, gk, ck, rfl, ha, FB, FOe, FKu, FOk, FNeu, FP0, FP1, FP2, FC3, FC6, FC16, FC21, FC27, FC28⟩ hall
  obtain rfl : b0 = true := by
   have h9 := hall 0 _ rfl (by
    intro e he hbd
    simp at he
    )
   simpa using h9
  obtain rfl : b3 = true := by
   have h9 := hall 3 _ rfl (by
    intro e he hbd
    simp at he
    rcases he with rfl | rfl <;> simp
    )
   simpa using h9
  obtain rfl : b5 = true := by
   have h9 := hall 5 _ rfl (by
    intro e he hbd
    simp at he
    subst he
    simp
    )
   simpa using h9
  obtain rfl : b6 = true := by
   have h9 := hall 6 _ rfl (by
    intro e he hbd
    simp at he
    rcases he with rfl | rfl | rfl <;> simp
    )
   simpa using h9
  obtain rfl : b16 = true := by
   have h9 := hall 16 _ rfl (by
    intro e he hbd
    simp at he
    rcases he with rfl | rfl | rfl <;> simp
    )
   simpa using h9
  obtain rfl : b21 = true := by
   have h9 := hall 21 _ rfl (by
    intro e he hbd
    simp at he
    rcases he with rfl | rfl | rfl <;> simp
    )
   simpa using h9
  obtain rfl : b27 = true := by
   have h9 := hall 27 _ rfl (by
    intro e he hbd
    simp at he
    rcases he with rfl | rfl | rfl | rfl | rfl <;> simp
    )
   simpa using h9
  obtain rfl : b28 = true := by
   have h9 := hall 28 _ rfl (by
    intro e he hbd
    simp at he
    rcases he with rfl | rfl | rfl | rfl | rfl | rfl | rfl | rfl | rfl | rfl | rfl | rfl | rfl | rfl | rfl | rfl | rfl | rfl | rfl | rfl | rfl | rfl | rfl | rfl | rfl | rfl | rfl | rfl | rfl | rfl <;> simp
    )
   simpa using h9
  clear hall
  simp only [fillS, pickS_true, pickS_false, Act.put, zz7, zz8, zz9, zz10, zz11, zz1, zz2, zz3, zz4, zz5, zz6] at ha
  subst ha
  refine NoPanic.normal ?_
  have HP0 := hide (FP0.out rfl)
  have HP1 := hide (FP1.out rfl)
  have HP2 := hide (FP2.out rfl)
  clear FB FOe FKu FOk FNeu FP0 FP1 FP2 FC3 FC6 FC16 FC21 FC27 FC28
  have CC := unhide HP0
  have q0 := (CC 0 (by simp)).1
  have q1 := (CC 1 (by simp)).1
  have q2 := (CC 2 (by simp)).1
  have q3 := (CC 3 (by simp)).1
  have q4 := (CC 4 (by simp)).1
  simp only [List.getElem?_cons_zero, List.getElem?_cons_succ] at q0 q1 q2 q3 q4
  clear CC
  go_wp2_with fail
  refine bodyPost_ret (v := .agg #[.slice (some ⟨gk, 0, none⟩) 1 ck, .int .i64 (sw + bw), .int .i64 (mx sd bd), .int .i64 (mx sh bh), .int .i64 (sg + bg)]) (by simp [results, Try.results43, go_sem, q0, q1, q2, q3, q4]) rfl ⟨gk, ck, rfl, ?_, unhide HP1⟩
  have h := unhide HP2
  exact h
end Go.Proofs.Ytcblpoeeembniaa
