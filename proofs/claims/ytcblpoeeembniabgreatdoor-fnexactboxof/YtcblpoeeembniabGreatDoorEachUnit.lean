/- impl.eachUnit: it tells each unit's place and its item's place, in order, and stops early where it is told so. -/
import Derived.Test.YtcblpoeeembniabGreatDoorUnitsPlain
import Derived.Test.YtcblpoeeembniabGreatDoorPkA
import Derived.RangeFuncNested
import Derived.RangeFuncBound
import Derived.RangeFuncCalls
import Derived.RangeFuncLeaves
import Derived.RangeFuncBox
import Derived.Shelf.Abstract
import Derived.Shelf.RegionOpen
import Derived.OwnWalkIn
import Derived.TacticsInMore
import Derived.LoopNIn
import Derived.LoopIn
import Derived.Maps.AppendAt
namespace Go.Proofs.YtcblpoeeembniabGreatDoor
open Go.RowKit Go.Shelf
set_option linter.unusedVariables false
attribute [local go_sem] Oper.semAt_some

/-- A unit of these items, by its number. -/
abbrev UnitOf (xs : List ItemV) := Fin (unitsL xs).length
def placeOf (xs : List ItemV) (u : Nat) : Int := (unitsL xs).getD u 0
/-- The first k units have come. -/
def Come (xs : List ItemV) (k : Nat) (pre : List (UnitOf xs)) : Prop := pre.map Fin.val = List.range k
theorem Come.nil (xs : List ItemV) : Come xs 0 [] := rfl
theorem Come.len {xs : List ItemV} {k : Nat} {pre : List (UnitOf xs)} (h : Come xs k pre) : pre.length = k := by
 have := congrArg List.length h
 simpa using this
theorem Come.next {xs : List ItemV} {k : Nat} {pre : List (UnitOf xs)} (h : Come xs k pre) (x : UnitOf xs) (hx : x.val = k) : Come xs (k + 1) (pre ++ [x]) := by
 unfold Come at h ⊢
 rw [List.map_append, h, List.range_succ]
 simp [hx]
theorem Come.all {xs : List ItemV} {pre : List (UnitOf xs)} (h : Come xs (unitsL xs).length pre) : pre.map (fun x => placeOf xs x.val) = unitsL xs := by
 have e : pre.map (fun x => placeOf xs x.val) = (pre.map Fin.val).map (placeOf xs) := by simp
 rw [e, h]
 apply List.ext_getElem
 · simp
 · intro i h1 h2
   simp [placeOf, h2]
theorem rdr_low {α : Type} [Inhabited α] {cells : α → List Value} {k B : Nat} {w w' : World} {a : Option Addr} {n : Nat} {xs : List α} (h : RdR cells k w a n xs) (hb : Below B w w') (hlt : 0 < n → ∀ x, a = some x → x.block < B) : RdR cells k w' a n xs :=
 ⟨h.1, fun i hi => by
  obtain ⟨b, off, ha, hc⟩ := h.2 i hi
  have hl := hlt (by omega) _ ha
  exact ⟨b, off, ha, fun j hj => (hb.cell (p := ⟨b, off + i * k + j, none⟩) hl).trans (hc j hj)⟩⟩
theorem rdr_lt {α : Type} [Inhabited α] {cells : α → List Value} {k : Nat} (hk : 0 < k) (hlen : ∀ q, (cells q).length = k) {w : World} {a : Option Addr} {n : Nat} {xs : List α} (h : RdR cells k w a n xs) : 0 < n → ∀ x, a = some x → x.block < w.heap.size := by
 intro hn x hx
 obtain ⟨b, off, ha, _⟩ := h.2 0 hn
 rw [ha] at hx
 injection hx with hx
 subst hx
 rw [ha] at h
 exact h.lt hk hlen hn
theorem unit_step (xs : List ItemV) (k : Nat) : (unitsTo xs (k + 1)).length = (unitsTo xs k).length + (xs.getD k default).cnt.toNat := by rw [unitsTo_step, List.length_append, List.length_replicate]

set_option maxRecDepth 100000 in
set_option maxHeartbeats 4000000 in
theorem each1_in (F : Fence) (n : Nat) (hF : F.fn 121) (hro : F.round = none) (hn : 1 ≤ n) (l Bs n₀ : Nat) (a : Option Addr) (m c : Nat) (xs : List ItemV) (hg : Good xs) (J Jx : List (UnitOf xs) → World → Prop) (W : World)
 (hJ : AbidesFrom W.heap.size J)
 (hY : ∀ pre x W1, J pre W1 → pre.length < (unitsL xs).length → YieldAt F (n - 1) Tryz.prog l #[.int .i64 ((x.val : Nat) : Int), .int .i64 (placeOf xs x.val)] W1 fun e W' =>
  (e = .returned (.bool true) ∧ J (pre ++ [x]) W' ∧ Below n₀ W1 W') ∨ (e = .returned (.bool false) ∧ Jx (pre ++ [x]) W'))
 (hn0 : n₀ ≤ W.heap.size) (hBs : W.cell? ⟨Bs, 0, none⟩ = some (.slice a m c)) (hr : RdR ItemV.cells 7 W a m xs) (hlt : 0 < m → ∀ x, a = some x → x.block < n₀) (h0 : J [] W) :
 CallsIn F n Tryz.prog 121 #[.func (.yield l) #[] #[], .pointer (some ⟨Bs, 0, none⟩)] W fun e W' => (∃ v, e = .returned v) ∧
  ((∃ ys, Come xs (unitsL xs).length ys ∧ J ys W') ∨ (∃ pre, (∃ k, k ≤ (unitsL xs).length ∧ Come xs k pre) ∧ Jx pre W')) := by
 have hm8 : m ≤ 8 := by rw [← hr.1]; exact hg.len
 have HR := hide hr
 have HLT := hide hlt
 have HG := hide hg
 clear hr hlt hg
 refine callsIn_of_wp Tryz.func121 rfl hF ?_ hro
 simp only [Tryz.ntmps121, List.size_toArray, List.length_cons, List.length_nil, Nat.reduceAdd, Nat.reduceSub, Array.replicate_succ, Array.replicate_zero, List.push_toArray, List.append_toArray, List.nil_append, List.cons_append]
 gi_wp2
 gi_loopw [3, 8] (fun u i wr => ∃ k t : Nat, k ≤ m ∧ t = (unitsTo xs k).length ∧ i = .int .i64 k ∧ u = .int .i64 t ∧ (∃ pre, Come xs t pre ∧ J pre wr) ∧ Below n₀ W wr ∧ W.heap.size ≤ wr.heap.size) (fun _ i _ => m - (intOf i).toNat)
 case atStart => exact ⟨0, 0, Nat.zero_le _, rfl, rfl, rfl, ⟨[], Come.nil xs, h0⟩, Below.refl _ _, Nat.le_refl _⟩
 case round =>
  obtain ⟨k, t, hk, ht, rfl, rfl, ⟨pre, hcm, hJs⟩, hbel, hsz⟩ := hrel
  have HCM := hide hcm
  clear hcm
  by_cases hlk : k < m
  case neg =>
   have hkm : k = m := by omega
   subst hkm
   have HE : Hid (t = (unitsL xs).length) := by rw [hide ht |>.out, ← HR.out.1]; rfl
   have HJ := hide hJs
   clear hJs ht
   gi_wp2
   go_end0
   exact ⟨⟨_, rfl⟩, .inl ⟨pre, by rw [← unhide HE]; exact unhide HCM, unhide HJ⟩⟩
  obtain ⟨b, off, rfl, hc⟩ := (rdr_low HR.out hbel HLT.out).2 k hlk
  have hku : k < xs.length := by rw [HR.out.1]; exact hlk
  have hok := HG.out.at k hku
  have hat := fun j hj => unitsL_at xs k j hku hj
  have hst := unit_step xs k
  generalize xs.getD k default = q at hc hok hat hst
  have hq := item_nums hok
  obtain ⟨cn, hcn⟩ : ∃ cn : Nat, q.cnt = cn := ⟨q.cnt.toNat, by omega⟩
  have hc6 : cn ≤ 6 := by omega
  have hcn2 : q.cnt.toNat = cn := by rw [hcn]; rfl
  rw [hcn2] at hat hst
  rw [← ht] at hat hst
  have HAT := hide hat
  have HST := hide hst
  have d0 : wr.cell? ⟨b, off + k * 7, none⟩ = some (.int .i64 q.id) := hc 0 (by omega)
  have d1 : wr.cell? ⟨b, off + k * 7 + 1, none⟩ = some (.int .i64 q.wd) := hc 1 (by omega)
  have d2 : wr.cell? ⟨b, off + k * 7 + 2, none⟩ = some (.int .i64 q.ht) := hc 2 (by omega)
  have d3 : wr.cell? ⟨b, off + k * 7 + 3, none⟩ = some (.int .i64 q.dp) := hc 3 (by omega)
  have d4 : wr.cell? ⟨b, off + k * 7 + 4, none⟩ = some (.int .i64 q.gram) := hc 4 (by omega)
  have d5 : wr.cell? ⟨b, off + k * 7 + 5, none⟩ = some (.int .i64 q.cls) := hc 5 (by omega)
  have d6 : wr.cell? ⟨b, off + k * 7 + 6, none⟩ = some (.int .i64 cn) := (hc 6 (by omega)).trans (by rw [← hcn]; rfl)
  have HJ1 := hide (fun o => hJ _ _ _ none hJs (World.grownBy_alloc wr o none) (fun r e => by cases e))
  have HB1 := hide (fun o => hbel.alloc (Nat.le_trans hn0 hsz) o)
  have HY := hide hY
  have HJ := hide hJ
  clear hc hat hst hok hq hcn hcn2 hJs hbel hY hJ ht
  gi_wp2
  gi_loopw [3, 15] (fun u j wi => ∃ p v : Nat, p ≤ cn ∧ v = t + p ∧ j = .int .i64 p ∧ u = .int .i64 v ∧ (∃ pre, Come xs v pre ∧ J pre wi) ∧ Below n₀ W wi ∧ W.heap.size ≤ wi.heap.size) (fun _ j _ => cn - (intOf j).toNat)
  case atStart => exact ⟨0, t, Nat.zero_le _, rfl, rfl, rfl, ⟨pre, unhide HCM, HJ1.out _⟩, HB1.out _, by simp; omega⟩
  case round =>
   clear d0 d1 d2 d3 d4 d5 d6 HJ1 HB1 hsz HCM
   obtain ⟨p, v, hp, hv, rfl, rfl, ⟨pre, hcm, hJi⟩, hbi, hsi⟩ := hrel
   have HCM := hide hcm
   clear hcm
   by_cases hlp : p < cn
   case neg =>
    have HR2 := hide (show v = (unitsTo xs (k + 1)).length by rw [unhide HST]; omega)
    have HJi := hide hJi
    have HBi := hide hbi
    clear hJi hbi hv
    gi_wp2
    go_roundw
    case rel => exact ⟨k + 1, v, by omega, unhide HR2, by go_num, rfl, ⟨pre, unhide HCM, unhide HJi⟩, unhide HBi, hsi⟩
    case measure => simp [intOf]; omega
   obtain ⟨hn1, hn2⟩ := HAT.out p hlp
   rw [← hv] at hn1 hn2
   obtain ⟨fx, hfx⟩ : ∃ fx : UnitOf xs, fx.val = v := ⟨⟨v, hn1⟩, rfl⟩
   obtain ⟨fn, tmps, assign, body, hy, hR⟩ := HY.out pre fx wr hJi (by rw [HCM.out.len]; exact hn1)
   rw [hfx, show placeOf xs v = (k : Int) from hn2] at hy
   have HN := hide (HCM.out.next fx hfx)
   have HBi := hide hbi
   have HN1 := hide hn1
   have hv12 : v ≤ 12 := by have := HG.out.units; omega
   have HV := hide hv
   clear hJi hbi hn1 hn2 hv hfx
   gi_wp2
   refine hR.mono ?_
   rintro e W3 (⟨rfl, hJ3, hk3⟩ | ⟨rfl, hJx3⟩)
   · have HJ3 := hide hJ3
     have HB3 := hide (HBi.out.trans hk3)
     have hs3 := hk3.size
     clear hJ3 hk3 hy hR
     gi_wp2
     go_roundw
     case rel => exact ⟨p + 1, v + 1, by omega, by have := unhide HV; omega, by go_num, by go_num, ⟨_, unhide HN, unhide HJ3⟩, unhide HB3, by omega⟩
     case measure => simp [intOf]; omega
   · have HJx := hide hJx3
     clear hJx3 hy hR
     gi_wp2
     refine bodyPost_ret (results_none rfl _ _ _) rfl ?_
     exact ⟨⟨_, rfl⟩, .inr ⟨_, ⟨v + 1, unhide HN1, unhide HN⟩, unhide HJx⟩⟩
set_option maxHeartbeats 1000000 in
theorem eachUnit_in (F : Fence) (n : Nat) (hF : F.fn 98) (hro : F.round = none) (a : Option Addr) (m c : Nat) (w : World) :
 CallsIn F n Tryz.prog 98 #[.slice a m c] w fun e w' => e = .returned (.func (.func 121) #[] #[.pointer (some ⟨w.heap.size, 0, none⟩)]) ∧ w' = w.alloc (.cells #[.slice a m c] 39) := by
 refine callsIn_of_wp Tryz.func98 rfl hF ?_ hro
 simp only [Tryz.ntmps98, List.size_toArray, List.length_cons, List.length_nil, Nat.reduceAdd, Nat.reduceSub, Array.replicate_succ, Array.replicate_zero, List.push_toArray, List.append_toArray, List.nil_append, List.cons_append]
 gi_wp2
 go_ret
 exact ⟨rfl, rfl⟩
/-- **The value that eachUnit hands back: all units, in order; or the first of them, where a round has said 'no more'.** -/
theorem each_stops (F : Fence) (n : Nat) (hF : F.fn 121) (hro : F.round = none) (hn : 1 ≤ n) (Bs n₀ : Nat) (a : Option Addr) (m c : Nat) (xs : List ItemV) (hg : Good xs) (w : World) (hBs : Bs < w.heap.size) (hn₀ : n₀ ≤ w.heap.size)
 (hc : w.cell? ⟨Bs, 0, none⟩ = some (.slice a m c)) (hr : RdR ItemV.cells 7 w a m xs) (hlt : 0 < m → ∀ x, a = some x → x.block < n₀) :
 SeqStopsK F n Tryz.prog 121 #[.pointer (some ⟨Bs, 0, none⟩)] (fun x : UnitOf xs => #[Value.int .i64 ((x.val : Nat) : Int), Value.int .i64 (placeOf xs x.val)]) (Below n₀) (fun ys => Come xs (unitsL xs).length ys)
  (fun pre => ∃ k, k ≤ (unitsL xs).length ∧ Come xs k pre) (unitsL xs).length w := fun l J Jx W hW hJ _ hY h0 =>
 each1_in F n hF hro hn l Bs n₀ a m c xs hg J Jx W hJ hY (Nat.le_trans hn₀ hW.size) ((hW.cell (p := ⟨Bs, 0, none⟩) hBs).trans hc) (rdr_low hr (hW.mono hn₀) hlt) hlt h0
end Go.Proofs.YtcblpoeeembniabGreatDoor
