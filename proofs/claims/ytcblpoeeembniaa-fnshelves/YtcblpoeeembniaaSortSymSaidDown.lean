/- What the library's symMerge does (Down), as one sentence over how long the two pieces are together. -/
import Derived.Test.YtcblpoeeembniaaSortRow
namespace Go.Proofs.Ytcblpoeeembniaa
open Go.RowKit

def SymSaidDown (base g n cap bx : Nat) (ak : Option Addr) (nk ck : Nat) (keys : List Int) (N : Nat) : Prop :=
 ∀ (P L R Q : List Nat) (A M B : Int) (w : World), L.length + R.length ≤ N → 1 ≤ L.length → 1 ≤ R.length → A = P.length → M = P.length + L.length → B = P.length + L.length + R.length →
  w.ownsRow base 3 1 (.slice (some ⟨g, 0, none⟩) n cap) n (cellsN (P ++ L ++ R ++ Q)) → Keys w bx ak nk ck keys →
  L.Pairwise (bef keys true) → R.Pairwise (bef keys true) → (∀ x ∈ L, ∀ y ∈ R, x < y) → (∀ p ∈ L ++ R, p < nk) →
  Calls Try.prog 72 #[.slice (some ⟨g, 0, none⟩) n cap, .int .i64 A, .int .i64 M, .int .i64 B, .func (Fn.func 66) #[] #[.pointer (some ⟨bx, 0, none⟩)]] w fun e w' =>
   e = .returned (.tuple #[]) ∧ ∃ M', M'.Perm (L ++ R) ∧ M'.Pairwise (bef keys true) ∧ w'.ownsRow base 3 1 (.slice (some ⟨g, 0, none⟩) n cap) n (cellsN (P ++ M' ++ Q)) ∧ w.grownBy w' (some g)
end Go.Proofs.Ytcblpoeeembniaa
