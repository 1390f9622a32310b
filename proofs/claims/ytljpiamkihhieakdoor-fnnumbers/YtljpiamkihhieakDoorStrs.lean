/- What a slice of texts reads as; the laws' own helpers over such slices. -/
import Derived.Test.YtljpiamkihhieakDoorDecConv
import Derived.WalkKit
import Derived.ProofKit
import Derived.Below
import Derived.Deep.QuietTactic
import Derived.BigQuiet
import Derived.WalkLawsBesides
import Derived.WalkSpells
import Derived.Deep.RegionHeld3
import Derived.Lib.ItoaNum
namespace Go.Proofs.YtljpiamkihhieakDoor
open Go.RowKit

/-- The slice at 'a' of length 'n' holds the texts 'ss'. -/
def RdS (w : World) (a : Option Addr) (n : Nat) (ss : List ByteArray) : Prop :=
  ss.length = n ∧ ∀ i, i < n → ∃ b off, a = some ⟨b, off, none⟩ ∧ w.cell? ⟨b, off + i, none⟩ = some (.string (ss.getD i ByteArray.empty))

theorem RdS.mono {w w' : World} {a : Option Addr} {n : Nat} {ss : List ByteArray} (h : RdS w a n ss) (hb : Below w.heap.size w w') : RdS w' a n ss :=
  ⟨h.1, fun i hi => by
    obtain ⟨b, off, ha, hc⟩ := h.2 i hi
    exact ⟨b, off, ha, (hb.cell (World.block_lt_of_cell? w _ hc)).trans hc⟩⟩

theorem getD_map_str (ss : List ByteArray) (i : Nat) (h : i < ss.length) : (ss.map Value.string)[i]? = some (.string (ss.getD i ByteArray.empty)) := by
  simp [h]

theorem Tryd.infoStr : (Tryd.prog.info? 9).map (fun i => (i.zero, i.size, i.bytes)) = some (some (.string ⟨#[]⟩), 1, 16) := by kernel_rfl

theorem RdS.of_owns {w : World} {base g n cap : Nat} {ss : List ByteArray} (h : w.ownsRow base 9 1 (.slice (some ⟨g, 0, none⟩) n cap) n (ss.map Value.string)) : RdS w (some ⟨g, 0, none⟩) n ss := by
  have hl : ss.length = n := by have := h.1; simpa using this
  refine ⟨hl, fun i hi => ⟨g, 0, rfl, ?_⟩⟩
  have := h.cellAt i (by omega)
  rw [getD_map_str ss i (by omega)] at this
  simpa using this

def mtext (n : Nat) : ByteArray := ⟨(109 :: pre n).toArray⟩

end Go.Proofs.YtljpiamkihhieakDoor
