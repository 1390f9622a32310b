/- The model's draw of keys: at most nine numbers, whatever the bytes. -/
import Derived.Test.YtcblpoeeembniaaDraw
import Derived.WalkSpells
namespace Go.Proofs.Ytcblpoeeembniaa
open Go.RowKit

theorem app_key {w wr w1 : World} {base g cap n : Nat} {v' : Value} {ks : List Int} {x : Int} {t : TypeId} (hn : ks.length = n)
 (hown : wr.ownsRow base 3 1 (.slice (some ⟨g, 0, none⟩) n cap) n (ks.map (Value.int .i64))) (hbase : w.heap.size ≤ base) {row : Option Nat} (hgb : w.grownBy wr row)
 (h1 : w1.ownsRow base 3 1 v' (n + 1) (ks.map (Value.int .i64) ++ [.int .i64 x])) (h2 : (wr.alloc (.cells #[.int .i64 x] t)).grownBy w1 (Value.slice (some ⟨g, 0, none⟩) n cap).ownBlock)
 (h3 : v' = .slice none 0 0 ↔ Value.slice (some ⟨g, 0, none⟩) n cap = .slice none 0 0 ∧ 1 = 0) :
 ∃ g' cap', v' = .slice (some ⟨g', 0, none⟩) (ks ++ [x]).length cap' ∧ w1.ownsRow base 3 1 (.slice (some ⟨g', 0, none⟩) (ks ++ [x]).length cap') (ks ++ [x]).length ((ks ++ [x]).map (Value.int .i64)) ∧ w.grownBy w1 row ∧ (∃ gg, base ≤ gg ∧ wr.grownBy w1 (some gg)) := by
 have hne : ¬ v' = .slice none 0 0 := fun h => by have := (h3.1 h).2; omega
 obtain ⟨g', cap', rfl⟩ := own_shape h1 hne
 have hl : (ks ++ [x]).length = n + 1 := by simp [hn]
 have hgb' := own_base hown
 have h2' : (wr.alloc (.cells #[.int .i64 x] t)).grownBy w1 (some g) := h2
 have h4 : wr.grownBy w1 (some g) := gb_new (World.grownBy_alloc wr _ (some g)) h2' |> fun h => gb_same (World.grownBy_alloc wr _ (some g)) h2'
 refine ⟨g', cap', by rw [hl], ?_, ?_, g, hgb', h4⟩
 · rw [hl]; simpa using h1
 · exact gb_new hgb h4 (by omega)

theorem ha_lt {w w' : World} {k : Nat} {a : Option Addr} {n c : Nat} {zs : List Int} {row : Option Nat} (h : Cur w k a n c zs) (_hg : w.grownBy w' row) (hn : 0 < n) (x : Addr) (hx : a = some x) : x.block < w.heap.size := by
 obtain ⟨b, off, ha, hc, _⟩ := h.bytes.2 0 hn
 rw [hx] at ha
 cases ha
 exact World.block_lt_of_cell? w _ hc

end Go.Proofs.Ytcblpoeeembniaa
