/- DepthOf of the program and of the model; the boxes' places, the deepest first. -/
import Derived.Test.YtcblpoeeembniaaShelfs
import Derived.Test.YtcblpoeeembniaaSum
import Derived.Deep.AppendLies
namespace Go.Proofs.Ytcblpoeeembniaa
open Go.RowKit
set_option linter.unusedVariables false
set_option linter.unusedSimpArgs false

def depthR (xs : List ShelfV) : Int := sumUp (xs.map (·.dp))
theorem dp_ret {a b : Int} (h : a = b) : Ending.returned (.int .i64 a) = .returned (.int .i64 b) := by rw [h]
theorem dp_set {k n : Nat} {x : Int} (f : List Int) (hf : f.length = k) (hk : k < n) : (f.map (Value.int .i64) ++ List.replicate (n - k) (Value.int .i64 0)).set k (.int .i64 x) = (f ++ [x]).map (Value.int .i64) ++ List.replicate (n - (k + 1)) (.int .i64 0) := by
 obtain ⟨m, rfl⟩ : ∃ m, n = k + 1 + m := ⟨n - (k + 1), by omega⟩
 rw [show k + 1 + m - k = m + 1 by omega, show k + 1 + m - (k + 1) = m by omega, List.replicate_succ, List.set_append_right _ _ (by simp [hf]), List.length_map, hf, Nat.sub_self, List.set_cons_zero]
 simp
theorem dp_take {α : Type} [Inhabited α] (f : α → Int) (xs : List α) (k : Nat) (h : k < xs.length) : (xs.take (k + 1)).map f = (xs.take k).map f ++ [f (xs.getD k default)] := by
 rw [List.take_succ_eq_append_getElem h, List.map_append]
 simp [h]
theorem own_lit0' (w : World) {B : Nat} {e : TypeId} {size : Nat} (hB : B ≤ w.heap.size) : (w.alloc (.cells #[] e)).ownsRow B e size (.slice (some ⟨w.heap.size, 0, none⟩) 0 0) 0 [] := World.ownsRow_lit w #[] 0 hB (Nat.zero_le _) (by simp)
set_option maxHeartbeats 1000000 in
theorem depthOf_any (a : Option Addr) (n c : Nat) (xs : List ShelfV) (w : World) (hr : RdShelf w a n xs) (hn : n ≤ 1048576) :
 Calls Try.prog 18 #[.slice a n c] w fun e w' => e = .returned (.int .i64 (depthR xs)) ∧ Below w.heap.size w w' := by
 obtain ⟨i0, hi, hz0, hz1, hz2⟩ := info_parts Try.infoInt
 have hbb : i0.bytes * n ≤ 281474976710656 := by rw [hz2]; omega
 have HR := hide hr
 clear hr
 go_enter Try.func18, Try.ntmps18
 go_wp2_with (first
  | (at_make; refine wpList_make_full _ rfl _ _ 49 rfl w.heap.size 3 i0 (.int .i64 0) 1 Try.underlying49 hi hz0 hz1 .i64 .i64 n n n rfl rfl rfl rfl hbb (by unfold maxLen; omega) (Nat.le_refl _) ?_; intro w1 hown hgrow)
  | go_in)
 have hown0 : w1.ownsRow w.heap.size 3 1 (.slice (some ⟨w.heap.size, 0, none⟩) n n) n (((xs.take 0).map (fun s => s.dp)).map (Value.int .i64) ++ List.replicate (n - 0) (.int .i64 0)) := by
  simpa [toList_madeCells_one, Value.cells] using hown
 have HO := hide hown0
 have HB := hide (show Below w.heap.size w w1 from (Below.refl _ _).grown hgrow (Nat.le_refl _) (by simp))
 clear hown hgrow hown0
 go_loopw [11] (fun i wr => ∃ k : Nat, k ≤ n ∧ i = .int .i64 k ∧ wr.ownsRow w.heap.size 3 1 (.slice (some ⟨w.heap.size, 0, none⟩) n n) n (((xs.take k).map (fun s => s.dp)).map (Value.int .i64) ++ List.replicate (n - k) (.int .i64 0)) ∧ Below w.heap.size w wr) (fun i _ => n - (intOf i).toNat)
 case atStart => exact ⟨0, Nat.zero_le _, rfl, unhide HO, unhide HB⟩
 case round =>
  clear HO HB
  obtain ⟨k, hk, rfl, ho, hbel⟩ := hrel
  have HO := hide ho
  have HB := hide hbel
  by_cases hlt : k < n
  · obtain ⟨b, off, ai, ci, rfl, hc0, hc1, hc2, hc3, hc4, _⟩ := (HR.out.mono hbel).2 k hlt
    have HTK := hide (dp_take (fun s => s.dp) xs k (by rw [HR.out.1]; exact hlt))
    generalize xs.getD k default = q at *
    have hz : w.heap.size < wr.heap.size := (ho.lt _ rfl).2
    have hl : (((xs.take k).map (fun s => s.dp)).map (Value.int .i64) ++ List.replicate (n - k) (Value.int .i64 0)).length = n := by have := HR.out.1; simp; omega
    obtain ⟨u, hu⟩ : ∃ u, wr.cell? ⟨w.heap.size, k, none⟩ = some u := ⟨_, (ho.cellAt k (by omega)).trans (List.getElem?_eq_getElem (by rw [hl]; exact hlt))⟩
    have hfz : wr.frozen? ⟨w.heap.size, k, none⟩ = false := ho.frozenAt k
    have hst := (ho.stored k (.int .i64 q.dp)).1
    rw [dp_set _ (by rw [List.length_map, List.length_take, HR.out.1]; omega) hlt] at hst
    have HS : Hid (((wr.setCell ⟨w.heap.size, k, none⟩ (.int .i64 q.dp)).alloc (.cells #[.slice ai q.us.length ci, .int .i64 q.wd, .int .i64 q.dp, .int .i64 q.ht, .int .i64 q.gram] 51)).ownsRow w.heap.size 3 1 (.slice (some ⟨w.heap.size, 0, none⟩) n n) n (((xs.take (k + 1)).map (fun s => s.dp)).map (Value.int .i64) ++ List.replicate (n - (k + 1)) (.int .i64 0))) := by rw [Hid, unhide HTK]; exact own_later hst ((Below.refl _ _).alloc (Nat.le_refl _) _)
    have HBS : Hid (Below w.heap.size w ((wr.setCell ⟨w.heap.size, k, none⟩ (.int .i64 q.dp)).alloc (.cells #[.slice ai q.us.length ci, .int .i64 q.wd, .int .i64 q.dp, .int .i64 q.ht, .int .i64 q.gram] 51))) := (HB.out.setCell (Nat.le_refl _) _).alloc (HB.out.setCell (Nat.le_refl _) _).size _
    clear hbel ho hst HO HB HTK hl
    go_wp2
    go_roundw
    case rel => exact ⟨k + 1, by omega, by go_num, unhide HS, unhide HBS⟩
    case measure => simp [intOf]; omega
  · obtain rfl : k = n := by omega
    have hx : xs.take k = xs := List.take_of_length_le (by rw [HR.out.1]; omega)
    rw [hx, Nat.sub_self, List.replicate_zero, List.append_nil] at ho
    have HRD := hide (Rd.of_owns ho)
    have hlt0 := (ho.lt _ rfl).2
    clear hbel ho HO
    go_wp2_with fail
    refine (implSum_any _ k k (xs.map (fun s => s.dp)) wr HRD.out hn).mono ?_
    rintro e w2 ⟨rfl, hw⟩
    subst w2
    go_wp2_with fail
    go_ret
    exact ⟨rfl, unhide HB⟩
set_option maxHeartbeats 1000000 in
theorem specDepthOf_any (a : Option Addr) (n c : Nat) (xs : List ShelfV) (w : World) (hr : RdShelf w a n xs) (hn : n ≤ 1048576) :
 Calls Try.prog 16 #[.slice a n c] w fun e w' => e = .returned (.int .i64 (depthR xs)) ∧ Below w.heap.size w w' := by
 obtain ⟨i0, hi, hz0, hz1, hz2⟩ := info_parts Try.infoInt
 have HR := hide hr
 clear hr
 go_enter Try.func16, Try.ntmps16
 go_wp2
 have O1 := hide (own_lit0' (e := 3) (size := 1) w (Nat.le_refl _))
 have B1 : Hid (Below w.heap.size w (w.alloc (.cells #[] 3))) := (Below.refl _ _).alloc (Nat.le_refl _) _
 generalize (w.alloc (.cells #[] 3)) = w1 at *
 go_loopw [3, 4] (fun o i wr => ∃ (k g cap : Nat), k ≤ n ∧ i = .int .i64 k ∧ o = .slice (some ⟨g, 0, none⟩) k cap ∧ wr.ownsRow w.heap.size 3 1 (.slice (some ⟨g, 0, none⟩) k cap) k (((xs.take k).map (fun s => s.dp)).map (Value.int .i64)) ∧ Below w.heap.size w wr) (fun _ i _ => n - (intOf i).toNat)
 case atStart => exact ⟨0, w.heap.size, 0, Nat.zero_le _, rfl, rfl, unhide O1, unhide B1⟩
 case round =>
  clear O1 B1
  obtain ⟨k, g, cap, hk, rfl, rfl, hown, hbel⟩ := hrel
  have HO := hide hown
  have HB := hide hbel
  by_cases hlt : k < n
  case pos =>
   obtain ⟨b, off, ai, ci, rfl, hc0, hc1, hc2, hc3, hc4, _⟩ := (HR.out.mono hbel).2 k hlt
   have HTK := hide (dp_take (fun s => s.dp) xs k (by rw [HR.out.1]; exact hlt))
   generalize xs.getD k default = q at *
   have hz : w.heap.size ≤ wr.heap.size := hbel.size
   clear hown hbel
   have O3 := hide (HO.out.alloc (.cells #[.int .i64 q.dp] 3))
   go_wp2_with (first
    | (at_builtin; refine wpList_append_lies _ rfl _ _ 49 rfl w.heap.size 3 i0 (.int .i64 0) 1 8 Try.underlying49 hi hz0 hz1 hz2 rfl (by omega) (.slice (some ⟨g, 0, none⟩) k cap) k (((xs.take k).map (fun s => s.dp)).map (Value.int .i64)) rfl O3.out ⟨wr.heap.size, 0, none⟩ 1 1 [.int .i64 q.dp] rfl rfl (World.news_of_block (heap_alloc_new _ _)) (by simp [Value.oneCell']) (by omega) (by unfold maxLen; omega) (by omega) (by simp; omega) (wr.heap.size + 1) (by simp) ?_; intro g3 cap3 w3 ho3 hg3 hat3 hlt3)
    | fail)
   have B4 : Hid (Below w.heap.size w w3) := (HB.out.alloc hz (.cells #[.int .i64 q.dp] 3)).grown hg3 (by simp; omega) (fun q hq => by simp [Value.ownBlock] at hq; have := own_base HO.out; omega)
   have O4 : Hid (w3.ownsRow w.heap.size 3 1 (.slice (some ⟨g3, 0, none⟩) (k + 1) cap3) (k + 1) (((xs.take (k + 1)).map (fun s => s.dp)).map (Value.int .i64))) := by rw [unhide HTK, List.map_append]; exact ho3
   clear ho3 hg3 hat3 hlt3
   go_roundw
   case rel => exact ⟨k + 1, g3, cap3, by omega, by go_num, rfl, unhide O4, unhide B4⟩
   case measure => simp [intOf]; omega
  case neg =>
   obtain rfl : k = n := by omega
   have hx : xs.take k = xs := List.take_of_length_le (by rw [HR.out.1]; omega)
   rw [hx] at hown
   have hlt0 := (hown.lt _ rfl).2
   have HRD := hide (Rd.of_owns hown)
   clear hbel hown HO
   go_wp2_with fail
   refine (specSum_any _ k cap (xs.map (fun s => s.dp)) wr HRD.out hn).mono ?_
   rintro e w2 ⟨rfl, hw⟩
   subst w2
   go_wp2_with fail
   go_ret
   exact ⟨rfl, unhide HB⟩
end Go.Proofs.Ytcblpoeeembniaa
