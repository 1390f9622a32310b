/- The program's table of kinds of lines, as it is laid. -/
import Derived.Test.YtbdpnmlhabliaaaDoorRows
import Derived.Test.YtbdpnmlhabliaaaDoorOrderPlain
import Derived.Lib.LaidTab
import Derived.LaidMore
namespace Go.Proofs.YtbdpnmlhabliaaaDoor
open Go.ChangeShapes Go.WideShapes Go.ChangeAt Go.RowKit
set_option linter.unusedVariables false

def kindBehind : Nat → Int
  | 0 => 1
  | 1 => 4
  | 2 => 1
  | 3 => 2
  | 4 => 7
  | 5 => 1
  | 6 => 7
  | _ => 0
def kindMany : Nat → Bool
  | 3 => true
  | 4 => true
  | 6 => true
  | _ => false
structure FormsIs (w : World) : Prop where
  word : ∀ k : Nat, k ≤ 6 → w.cell? ⟨0, k * 3, none⟩ = some (.string ⟨(kindWord k).toArray⟩)
  behind : ∀ k : Nat, k ≤ 6 → w.cell? ⟨0, k * 3 + 1, none⟩ = some (.int .i64 (kindBehind k))
  many : ∀ k : Nat, k ≤ 6 → w.cell? ⟨0, k * 3 + 2, none⟩ = some (.bool (kindMany k))
theorem FormsIs.lt {w : World} (h : FormsIs w) : 0 < w.heap.size := World.block_lt_of_cell? w _ (h.word 0 (by omega))
theorem FormsIs.later {w w' : World} (h : FormsIs w) (hb : Below w.heap.size w w') : FormsIs w' :=
  ⟨fun k hk => (hb.cell (p := ⟨_, _, none⟩) h.lt).trans (h.word k hk), fun k hk => (hb.cell (p := ⟨_, _, none⟩) h.lt).trans (h.behind k hk), fun k hk => (hb.cell (p := ⟨_, _, none⟩) h.lt).trans (h.many k hk)⟩
theorem FormsIs.keep {B : Nat} {w w' : World} (h : FormsIs w) (hb : Below B w w') (hB : 0 < B) : FormsIs w' :=
  ⟨fun k hk => (hb.cell (p := ⟨_, _, none⟩) hB).trans (h.word k hk), fun k hk => (hb.cell (p := ⟨_, _, none⟩) hB).trans (h.behind k hk), fun k hk => (hb.cell (p := ⟨_, _, none⟩) hB).trans (h.many k hk)⟩

theorem gForms : Tryd.prog.globalNamed "loop.example/g00489/impl.lineForms" = some 0 := by kernel_rfl
theorem gFormsType : (Tryd.prog.globals[0]?).map (·.type) = some 109 := by kernel_rfl
theorem formsCells : Tryd.prog.cellsOf 109 = 21 := by kernel_rfl
theorem formCells : Tryd.prog.cellsOf 108 = 3 := by kernel_rfl
theorem strCells1 : Tryd.prog.cellsOf 9 = 1 := by kernel_rfl
theorem intCells1 : Tryd.prog.cellsOf 3 = 1 := by kernel_rfl
theorem boolCells1 : Tryd.prog.cellsOf 4 = 1 := by kernel_rfl

theorem form_of {w : World} {fuel : Nat} {cs : List Value} {s : List UInt8} {n : Int} {b : Bool} {p : List MemPlace}
    (h : DataW.trod (fun _ => ()) Tryd.prog w 0 (fun _ => true) false fuel 108 cs = some (.agg [.lit (.string s), .lit (.int .i64 n), .lit (.bool b)], p)) :
    cs[0]? = some (.string ⟨s.toArray⟩) ∧ cs[1]? = some (.int .i64 n) ∧ cs[2]? = some (.bool b) := by
  obtain ⟨xs, m, rfl, hx, hl, hxl, hf⟩ := DataW.trod_struct Tryd.underlying108 h
  have hx1 : xs.map (·.1) = [.lit (.string s), .lit (.int .i64 n), .lit (.bool b)] := by
    exact (DataW.agg.inj (congrArg Prod.fst hx)).symm
  obtain ⟨x0, x1, x2, rfl⟩ : ∃ x0 x1 x2, xs = [x0, x1, x2] := by
    match xs, hx1 with
    | [a, b, c], _ => exact ⟨a, b, c, rfl⟩
  simp only [List.map_cons, List.map_nil, List.cons.injEq, and_true] at hx1
  obtain ⟨e0, e1, e2⟩ := hx1
  have f0 : DataW.trod (fun _ => ()) Tryd.prog w 0 (fun _ => true) false m 9 ((cs.drop 0).take (Tryd.prog.cellsOf 9)) = some x0 := hf 0 _ rfl
  have f1 : DataW.trod (fun _ => ()) Tryd.prog w 0 (fun _ => true) false m 3 ((cs.drop 1).take (Tryd.prog.cellsOf 3)) = some x1 := hf 1 _ rfl
  have f2 : DataW.trod (fun _ => ()) Tryd.prog w 0 (fun _ => true) false m 4 ((cs.drop 2).take (Tryd.prog.cellsOf 4)) = some x2 := hf 2 _ rfl
  rw [strCells1] at f0
  rw [intCells1] at f1
  rw [boolCells1] at f2
  obtain ⟨s', c0, d0, _⟩ := DataW.trod_string Tryd.underlying9 f0
  obtain ⟨n', c1, d1, _⟩ := DataW.trod_int Tryd.underlying3 f1
  obtain ⟨b', c2, d2⟩ := DataW.trod_bool Tryd.underlying4 f2
  subst d0
  subst d1
  subst d2
  simp only [DataW.lit.injEq, Lit.string.injEq, Lit.int.injEq, Lit.bool.injEq, true_and] at e0 e1 e2
  subst e0
  subst e1
  subst e2
  have g0 := congrArg (·[0]?) c0
  have g1 := congrArg (·[0]?) c1
  have g2 := congrArg (·[0]?) c2
  simp [List.getElem?_drop] at g0 g1 g2
  exact ⟨g0, g1, g2⟩
theorem forms_of {W : World} {rest : List (String × DataW Unit)} (h : laidMet Tryd.prog (("loop.example/g00489/impl.lineForms", Rows.laid_loop_example_g00489_impl_lineForms) :: rest) W) : FormsIs W := by
  obtain ⟨ps, ⟨g', t', cs, fuel, p, q, hg', ht', hvar, hd, _, _⟩, _⟩ := h
  obtain rfl := Option.some.inj (gForms.symm.trans hg')
  obtain rfl := Option.some.inj (gFormsType.symm.trans ht')
  have hcell := World.var?_cell gForms hvar
  cases fuel with
  | zero => simp [DataW.trod] at hd
  | succ fuel =>
    simp only [DataW.trod, Tryd.underlying109, formsCells, formCells] at hd
    split at hd
    · obtain ⟨xs, hm, hx⟩ := Option.map_eq_some_iff.1 hd
      have hxs : xs.map (·.1) = [.agg [.lit (.string [119, 97, 121]), .lit (.int .i64 1), .lit (.bool false)], .agg [.lit (.string [112, 97, 108, 108, 101, 116]), .lit (.int .i64 4), .lit (.bool false)], .agg [.lit (.string [99, 108, 97, 115, 115, 101, 115]), .lit (.int .i64 1), .lit (.bool false)], .agg [.lit (.string [119, 105, 116, 104]), .lit (.int .i64 2), .lit (.bool true)], .agg [.lit (.string [116, 121, 112, 101]), .lit (.int .i64 7), .lit (.bool true)], .agg [.lit (.string [109, 97, 115, 116, 101, 114]), .lit (.int .i64 1), .lit (.bool false)], .agg [.lit (.string [105, 116, 101, 109]), .lit (.int .i64 7), .lit (.bool true)]] := by
        exact DataW.agg.inj (congrArg Prod.fst hx)
      have one : ∀ k, k ≤ 6 → cs[k * 3]? = some (.string ⟨(kindWord k).toArray⟩) ∧ cs[k * 3 + 1]? = some (.int .i64 (kindBehind k)) ∧ cs[k * 3 + 2]? = some (.bool (kindMany k)) := by
        intro k hk
        have hk7 : (List.range 7)[k]? = some k := by rw [List.getElem?_range (by omega)]
        obtain ⟨b, hb, hf⟩ := Lib.mapM_at hm k k hk7
        have hb1 : (xs.map (·.1))[k]? = some b.1 := by simp [hb]
        rw [hxs] at hb1
        obtain ⟨b1, b2⟩ := b
        dsimp only at hb1
        have key : b1 = .agg [.lit (.string (kindWord k)), .lit (.int .i64 (kindBehind k)), .lit (.bool (kindMany k))] := by
          match k, hk, hb1 with
          | 0, _, e => exact (Option.some.inj e).symm
          | 1, _, e => exact (Option.some.inj e).symm
          | 2, _, e => exact (Option.some.inj e).symm
          | 3, _, e => exact (Option.some.inj e).symm
          | 4, _, e => exact (Option.some.inj e).symm
          | 5, _, e => exact (Option.some.inj e).symm
          | 6, _, e => exact (Option.some.inj e).symm
        subst key
        have := form_of hf
        simpa [List.getElem?_take, List.getElem?_drop] using this
      exact ⟨fun k hk => (hcell (k * 3)).trans (one k hk).1, fun k hk => (hcell (k * 3 + 1)).trans (one k hk).2.1, fun k hk => (hcell (k * 3 + 2)).trans (one k hk).2.2⟩
    · cases hd
end Go.Proofs.YtbdpnmlhabliaaaDoor
