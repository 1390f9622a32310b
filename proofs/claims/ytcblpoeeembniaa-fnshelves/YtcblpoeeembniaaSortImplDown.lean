/- The program's SortDown: the places, sorted by their keys. -/
import Derived.Test.YtcblpoeeembniaaPlaces
import Derived.Test.YtcblpoeeembniaaSortStableDown
namespace Go.Proofs.Ytcblpoeeembniaa
open Go.RowKit

theorem stableFuncDown_any (base g n cap bx : Nat) (ak : Option Addr) (ck : Nat) (keys : List Int) (w : World) (hown : w.ownsRow base 3 1 (.slice (some ⟨g, 0, none⟩) n cap) n (cellsN (List.range n))) (hk : Keys w bx ak n ck keys) (hbx : bx ≠ g) (hak : ∀ x, ak = some x → x.block ≠ g) (hn : n ≤ 1048576) :
 Calls Try.prog 65 #[.slice (some ⟨g, 0, none⟩) n cap, .func (Fn.func 66) #[] #[.pointer (some ⟨bx, 0, none⟩)]] w fun e w' =>
  e = .returned (.tuple #[]) ∧ w'.ownsRow base 3 1 (.slice (some ⟨g, 0, none⟩) n cap) n (cellsN (sortP keys true (List.range n))) ∧ w.grownBy w' (some g) := by
 have HK := hide hk
 have HO := hide hown
 clear hk hown
 go_enter Try.func65, Try.ntmps65
 go_wp2_with fail
 refine (stableDown_any base g n cap bx ak ck keys w HO.out HK.out hbx hak hn).mono ?_
 rintro e w1 ⟨rfl, ho, hg⟩
 go_wp2
 go_end0
 exact ⟨rfl, ho, hg⟩

set_option maxHeartbeats 800000 in
theorem implSortDown_any (ak : Option Addr) (n ck : Nat) (keys : List Int) (w : World) (hr : Rd w ak n keys) (hlt : ∀ x, ak = some x → x.block < w.heap.size) (hn : n ≤ 1048576) :
 Calls Try.prog 60 #[.slice ak n ck] w fun e w' => e = .returned (.slice (some ⟨w.heap.size + 1, 0, none⟩) n n) ∧
  w'.ownsRow w.heap.size 3 1 (.slice (some ⟨w.heap.size + 1, 0, none⟩) n n) n (cellsN (sortP keys true (List.range n))) ∧ Below w.heap.size w w' := by
 have hmf : ∀ (fn : Fn) (first cap : Array Value) (w : World), (Instr.makeFunc fn first cap).run Try.prog w = .ok (.func fn first cap) w := fun _ _ _ _ => rfl
 have hb0 : Below w.heap.size w (w.alloc (.cells #[.slice ak n ck] 49)) := (Below.refl _ _).alloc (Nat.le_refl _) _
 have HR := hide (hr.mono hb0)
 have HB0 := hide hb0
 have HLT := hide hlt
 clear hr hb0 hlt
 go_enter Try.func60, Try.ntmps60
 go_wp2_with fail
 refine (placesOf_any ak n ck _ hn).mono ?_
 rintro e w1 ⟨rfl, ho1, hb1⟩
 have hsz : (w.alloc (.cells #[.slice ak n ck] 49)).heap.size = w.heap.size + 1 := by simp
 rw [hsz] at ho1
 have hcell : w1.cell? ⟨w.heap.size, 0, none⟩ = some (.slice ak n ck) := (hb1.cell (by simp)).trans (by simp [go_sem])
 have HK : Hid (Keys w1 w.heap.size ak n ck keys) := ⟨hcell, HR.out.mono hb1⟩
 have HO := hide ho1
 have hb01 := HB0.out.trans (hb1.mono HB0.out.size)
 have HB1 := hide hb01
 rw [hsz]
 clear ho1 hb1 hb01 hcell hsz
 go_wp2_with fail
 refine (stableFuncDown_any _ (w.heap.size + 1) n n w.heap.size ak ck keys w1 HO.out HK.out (by omega) ?_ hn).mono ?_
 · intro x hx
   have := HLT.out x hx
   omega
 rintro e w2 ⟨rfl, ho2, hg2⟩
 have hb2 : Below w.heap.size w w2 := HB1.out.grown hg2 HB1.out.size (by intro k hk; cases hk; omega)
 have ho3 : w2.ownsRow w.heap.size 3 1 (.slice (some ⟨w.heap.size + 1, 0, none⟩) n n) n (cellsN (sortP keys true (List.range n))) := own_less ho2 (by omega)
 have HO3 := hide ho3
 clear ho2 hg2 ho3
 go_wp2
 go_ret
 exact ⟨rfl, HO3.out, hb2⟩
end Go.Proofs.Ytcblpoeeembniaa
