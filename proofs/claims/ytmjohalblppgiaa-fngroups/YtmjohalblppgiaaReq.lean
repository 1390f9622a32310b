/- An order as a plain value: how it lies in memory; the laws' copy, size and comparison of it. -/
import Derived.Test.YtmjohalblppgiaaToS
import Derived.Test.YtmjohalblppgiaaEqS
namespace Go.Proofs.Ytmjohalblppgiaa
open Go.RowKit
set_option linter.unusedVariables false

structure ReqV where
  (way : Int) (pal : PalletV) (classes : Int) (pairs : List PairV) (types : List TypeV) (master : Int) (items : List ItemV)
deriving Inhabited, DecidableEq
/-- Where its lists lie. -/
structure ReqH where
  (ap at' ai : Option Addr) (cp ct ci : Nat)
def reqVal (r : ReqV) (h : ReqH) : Value :=
  .agg #[.int .i64 r.way, .int .i64 r.pal.wd, .int .i64 r.pal.dp, .int .i64 r.pal.ht, .int .i64 r.pal.gram, .int .i64 r.classes, .slice h.ap r.pairs.length h.cp, .slice h.at' r.types.length h.ct, .int .i64 r.master, .slice h.ai r.items.length h.ci]
def RdReq (w : World) (r : ReqV) (h : ReqH) : Prop :=
  RdR PairV.cells 2 w h.ap r.pairs.length r.pairs ∧ RdR TypeV.cells 7 w h.at' r.types.length r.types ∧ RdR ItemV.cells 7 w h.ai r.items.length r.items
theorem RdReq.mono {w w' : World} {r : ReqV} {h : ReqH} (hr : RdReq w r h) (hb : Below w.heap.size w w') : RdReq w' r h :=
  ⟨hr.1.mono (by omega) PairV.len hb, hr.2.1.mono (by omega) TypeV.len hb, hr.2.2.mono (by omega) ItemV.len hb⟩
/-- Its lists are new memory. -/
def ReqH.fresh (B : Nat) (h : ReqH) : Prop := (∃ b, h.ap = some ⟨b, 0, none⟩ ∧ B ≤ b) ∧ (∃ b, h.at' = some ⟨b, 0, none⟩ ∧ B ≤ b) ∧ (∃ b, h.ai = some ⟨b, 0, none⟩ ∧ B ≤ b)
def ReqV.small (r : ReqV) : Prop := r.pairs.length + r.types.length + r.items.length ≤ 1048576

def reqCells (r : ReqV) (h : ReqH) : List Value :=
  [.int .i64 r.way, .int .i64 r.pal.wd, .int .i64 r.pal.dp, .int .i64 r.pal.ht, .int .i64 r.pal.gram, .int .i64 r.classes, .slice h.ap r.pairs.length h.cp, .slice h.at' r.types.length h.ct, .int .i64 r.master, .slice h.ai r.items.length h.ci]
theorem reqFacts {w : World} {b : Nat} {r : ReqV} {h : ReqH} (H : Blk w b (reqCells r h)) :
    w.cell? ⟨b, 0, none⟩ = some (.int .i64 r.way) ∧ w.cell? ⟨b, 1, none⟩ = some (.int .i64 r.pal.wd) ∧ w.cell? ⟨b, 2, none⟩ = some (.int .i64 r.pal.dp) ∧ w.cell? ⟨b, 3, none⟩ = some (.int .i64 r.pal.ht) ∧ w.cell? ⟨b, 4, none⟩ = some (.int .i64 r.pal.gram) ∧
    w.cell? ⟨b, 5, none⟩ = some (.int .i64 r.classes) ∧ w.cell? ⟨b, 6, none⟩ = some (.slice h.ap r.pairs.length h.cp) ∧ w.cell? ⟨b, 7, none⟩ = some (.slice h.at' r.types.length h.ct) ∧ w.cell? ⟨b, 8, none⟩ = some (.int .i64 r.master) ∧ w.cell? ⟨b, 9, none⟩ = some (.slice h.ai r.items.length h.ci) :=
  ⟨(H 0 (by simp [reqCells])).1, (H 1 (by simp [reqCells])).1, (H 2 (by simp [reqCells])).1, (H 3 (by simp [reqCells])).1, (H 4 (by simp [reqCells])).1, (H 5 (by simp [reqCells])).1, (H 6 (by simp [reqCells])).1, (H 7 (by simp [reqCells])).1, (H 8 (by simp [reqCells])).1, (H 9 (by simp [reqCells])).1⟩
theorem bcell {W w1 : World} (hb : Below W.heap.size W w1) : (∀ b o, b < W.heap.size → w1.cell? ⟨b, o, none⟩ = W.cell? ⟨b, o, none⟩) ∧ (∀ b o, b < W.heap.size → w1.frozen? ⟨b, o, none⟩ = W.frozen? ⟨b, o, none⟩) :=
  ⟨fun b o h => hb.cell (p := ⟨b, o, none⟩) h, fun b o h => hb.frozen (p := ⟨b, o, none⟩) h⟩
end Go.Proofs.Ytmjohalblppgiaa
