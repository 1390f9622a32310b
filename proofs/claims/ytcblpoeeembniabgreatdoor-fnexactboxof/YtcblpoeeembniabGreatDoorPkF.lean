/- AsFault, ClassPlain, ClassIds, ClassKinds, ClassImpl, ErrTOf: one text. -/
import Derived.Test.YtcblpoeeembniabGreatDoorPkA
import Derived.LaidEql
import Derived.Stop.Asserts
import Derived.RowKitTokens
import Derived.Test.YtcblpoeeembniabGreatDoorPkD
import Derived.Test.YtcblpoeeembniabGreatDoorPkI
import Derived.Test.YtcblpoeeembniabGreatDoorPkC
import Derived.Test.YtcblpoeeembniabGreatDoorPkB
import Derived.WalkSpells
import Derived.Maps.AppendAt
import Derived.Test.YtcblpoeeembniabGreatDoorRows
import Derived.LaidHandle
import Derived.LaidMore
import Derived.Conc.Holds
import Derived.SevenTiedAt
/- errors.As at the program's own error, a struct of one number: no error; an error of that type. -/
namespace Go.Proofs.YtcblpoeeembniabGreatDoor
open Go.RowKit Go.Extern.Stop Go.Stop Go.Extern
set_option linter.unusedVariables false
set_option linter.unusedSimpArgs false

theorem as_nil (t : Value) (w : World) : Calls Tryz.prog 85 #[.nilIface, t] w fun e w' => e = .returned (.bool false) ∧ w' = w := by
 go_enter Tryz.func85, Tryz.ntmps85
 go_wp2
 go_ret
 exact ⟨rfl, rfl⟩

theorem valueOfP (t : Addr) (w : World) : (ReflectliteValue.unpack (.iface 128 (.pointer (some t)))).run Tryz.prog w
 = .ok (.agg #[.pointer (some ⟨1, 128, none⟩), .pointer (some ⟨w.heap.size, 0, none⟩), .int .u64 150]) (w.alloc (.cells #[.pointer (some t)] 128)) := by kernel_rfl
theorem typeP (a : Addr) (w : World) : (ReflectliteValue.methodAny (ReflectliteValue.valueError "reflectlite.Value.Type" 0) (fun t _ _ _ => ReflectliteType.toType t) #[.agg #[.pointer (some ⟨1, 128, none⟩), .pointer (some a), .int .u64 150]]).run Tryz.prog w
 = .ok (.iface 176 (.agg #[.pointer (some ⟨1, 128, none⟩)])) w := by kernel_rfl
theorem methodKind (h : Value) (w : World) : (Go.method 345 176 (.agg #[h]) "Kind").run Tryz.prog w = .ok (173, h) w := by kernel_rfl
theorem kindP (w : World) : ((ReflectliteType.abiMethod fun t => (fun a : Nat => Value.int IntKind.u8 (a : Int)) <$> Rtype.kind t) #[.pointer (some ⟨1, 128, none⟩)]).run Tryz.prog w = .ok (.int .u8 22) w := by kernel_rfl
theorem kindF (w : World) : ((ReflectliteType.abiMethod fun t => (fun a : Nat => Value.int IntKind.u8 (a : Int)) <$> Rtype.kind t) #[.pointer (some ⟨1, 126, none⟩)]).run Tryz.prog w = .ok (.int .u8 25) w := by kernel_rfl
theorem partsP (a : Addr) (w : World) : (ReflectliteValue.parts (.agg #[.pointer (some ⟨1, 128, none⟩), .pointer (some a), .int .u64 150])).run Tryz.prog w = .ok (some (128, a, 150)) w := by kernel_rfl
theorem isNilP (a p : Addr) (W : World) (ha : W.cell? a = some (.pointer (some p))) :
 (ReflectliteValue.method (ReflectliteValue.valueError "reflectlite.Value.IsNil" 0) ReflectliteValue.isNil #[.agg #[.pointer (some ⟨1, 128, none⟩), .pointer (some a), .int .u64 150]]).run Tryz.prog W = .ok (.bool false) W := by
 rw [show ∀ z f, ReflectliteValue.method z f #[.agg #[.pointer (some ⟨1, 128, none⟩), .pointer (some a), .int .u64 150]] = (ReflectliteValue.parts (.agg #[.pointer (some ⟨1, 128, none⟩), .pointer (some a), .int .u64 150]) >>= _) from fun _ _ => rfl]
 simp only [Sem.run_bind, partsP, Result.andThen]
 simp [ReflectliteValue.isNil, loadVar, isAgg, underlying, Tryz.underlying128, ha, Result.andThen]
theorem methodElem (h : Value) (w : World) : (Go.method 345 176 (.agg #[h]) "Elem").run Tryz.prog w = .ok (183, .agg #[h]) w := by kernel_rfl
theorem methodImplements (h : Value) (w : World) : (Go.method 345 176 (.agg #[h]) "Implements").run Tryz.prog w = .ok (184, .agg #[h]) w := by kernel_rfl
theorem methodAssignableTo (h : Value) (w : World) : (Go.method 345 176 (.agg #[h]) "AssignableTo").run Tryz.prog w = .ok (181, .agg #[h]) w := by kernel_rfl
theorem elemP (w : World) : (ReflectliteType.method ReflectliteType.elem #[.agg #[.pointer (some ⟨1, 128, none⟩)]]).run Tryz.prog w = .ok (.iface 176 (.agg #[.pointer (some ⟨1, 126, none⟩)])) w := by kernel_rfl
theorem implementsF (w : World) : (ReflectliteType.relation "Implements" ReflectliteType.implements_ #[.agg #[.pointer (some ⟨1, 126, none⟩)], .iface 176 (.agg #[.pointer (some ⟨1, 101, none⟩)])]).run Tryz.prog w = .ok (.bool true) w := by kernel_rfl
theorem typeOfF (v : Value) (w : World) : (ReflectliteType.typeOf #[.iface 126 v]).run Tryz.prog w = .ok (.iface 176 (.agg #[.pointer (some ⟨1, 126, none⟩)])) w := by kernel_rfl
theorem assignableF (w : World) : (ReflectliteType.relation "AssignableTo" ReflectliteType.assignableTo #[.agg #[.pointer (some ⟨1, 126, none⟩)], .iface 176 (.agg #[.pointer (some ⟨1, 126, none⟩)])]).run Tryz.prog w = .ok (.bool true) w := by kernel_rfl
theorem valueOfF (c : Int) (w : World) : (ReflectliteValue.unpack (.iface 126 (.agg #[.int .i64 c]))).run Tryz.prog w
 = .ok (.agg #[.pointer (some ⟨1, 126, none⟩), .pointer (some ⟨w.heap.size, 0, none⟩), .int .u64 153]) (w.alloc (.cells #[.int .i64 c] 126)) := by kernel_rfl
theorem elemOfP (w : World) : (Rtype.elem? 128).run Tryz.prog w = .ok (some 126) w := by kernel_rfl
theorem mkF (p : Addr) (w : World) : (ReflectliteValue.mk 126 p ReflectliteValue.flagAddr).run Tryz.prog w = .ok (.agg #[.pointer (some ⟨1, 126, none⟩), .pointer (some p), .int .u64 409]) w := by kernel_rfl
theorem elemVP (a p : Addr) (W : World) (ha : W.cell? a = some (.pointer (some p))) :
 (ReflectliteValue.method (ReflectliteValue.valueError "reflectlite.Value.Elem" 0) ReflectliteValue.elem #[.agg #[.pointer (some ⟨1, 128, none⟩), .pointer (some a), .int .u64 150]]).run Tryz.prog W
  = .ok (.agg #[.pointer (some ⟨1, 126, none⟩), .pointer (some p), .int .u64 409]) W := by
 rw [show ∀ z f, ReflectliteValue.method z f #[.agg #[.pointer (some ⟨1, 128, none⟩), .pointer (some a), .int .u64 150]] = (ReflectliteValue.parts (.agg #[.pointer (some ⟨1, 128, none⟩), .pointer (some a), .int .u64 150]) >>= _) from fun _ _ => rfl]
 simp only [Sem.run_bind, partsP, Result.andThen]
 simp [ReflectliteValue.elem, loadVar, isAgg, underlying, Tryz.underlying128, ha, Result.andThen, elemOfP, mkF]
theorem partsFa (a : Addr) (w : World) : (ReflectliteValue.parts (.agg #[.pointer (some ⟨1, 126, none⟩), .pointer (some a), .int .u64 409])).run Tryz.prog w = .ok (some (126, a, 409)) w := by kernel_rfl
theorem partsF (a : Addr) (w : World) : (ReflectliteValue.parts (.agg #[.pointer (some ⟨1, 126, none⟩), .pointer (some a), .int .u64 153])).run Tryz.prog w = .ok (some (126, a, 153)) w := by kernel_rfl
theorem directF (w : World) : (Rtype.directlyAssignable 126 126).run Tryz.prog w = .ok true w := by kernel_rfl
theorem sizeF (w : World) : (sizeOf 126).run Tryz.prog w = .ok 1 w := by kernel_rfl
theorem loadF (g : Nat) (c : Int) (W : World) (hb : W.cell? ⟨g, 0, none⟩ = some (.int .i64 c)) : (loadVar 126 ⟨g, 0, none⟩).run Tryz.prog W = .ok (.agg #[.int .i64 c]) W := by
 simp [loadVar, isAgg, underlying, Tryz.underlying126, go_sem, hb, Result.andThen]
theorem storeF (t : Nat) (c : Int) (old : Value) (W : World) (ht : W.cell? ⟨t, 0, none⟩ = some old) (hf : W.frozen? ⟨t, 0, none⟩ = false) : (storeVar 126 ⟨t, 0, none⟩ (.agg #[.int .i64 c])).run Tryz.prog W = .ok () (W.setCell ⟨t, 0, none⟩ (.int .i64 c)) := by
 simp [storeVar, Value.cells, storeCells, Addr.add, go_sem, ht, hf]
theorem setF (t b : Nat) (c : Int) (old : Value) (W : World) (hb : W.cell? ⟨b, 0, none⟩ = some (.int .i64 c)) (ht : W.cell? ⟨t, 0, none⟩ = some old) (hf : W.frozen? ⟨t, 0, none⟩ = false) :
 (ReflectliteValue.set #[.agg #[.pointer (some ⟨1, 126, none⟩), .pointer (some ⟨t, 0, none⟩), .int .u64 409], .agg #[.pointer (some ⟨1, 126, none⟩), .pointer (some ⟨b, 0, none⟩), .int .u64 153]]).run Tryz.prog W
  = .ok (.tuple #[]) (W.setCell ⟨t, 0, none⟩ (.int .i64 c)) := by
 rw [show ReflectliteValue.set #[.agg #[.pointer (some ⟨1, 126, none⟩), .pointer (some ⟨t, 0, none⟩), .int .u64 409], .agg #[.pointer (some ⟨1, 126, none⟩), .pointer (some ⟨b, 0, none⟩), .int .u64 153]] = (ReflectliteValue.parts (.agg #[.pointer (some ⟨1, 126, none⟩), .pointer (some ⟨t, 0, none⟩), .int .u64 409]) >>= fun p => ReflectliteValue.parts (.agg #[.pointer (some ⟨1, 126, none⟩), .pointer (some ⟨b, 0, none⟩), .int .u64 153]) >>= _) from rfl]
 simp only [Sem.run_bind, partsFa, partsF, Result.andThen]
 simp [ReflectliteValue.flagAddr, Result.andThen, directF, loadF b c W hb, storeF t c old W ht hf]
set_option maxHeartbeats 4000000 in
theorem as_hit (c : Int) (t : Nat) (old : Value) (w : World) (hg : w.cell? ⟨0, 0, none⟩ = some (.iface 176 (.agg #[.pointer (some ⟨1, 101, none⟩)]))) (ht0 : w.cell? ⟨t, 0, none⟩ = some old) (hf0 : w.frozen? ⟨t, 0, none⟩ = false) :
 Calls Tryz.prog 85 #[.iface 126 (.agg #[.int .i64 c]), .iface 128 (.pointer (some ⟨t, 0, none⟩))] w fun ev w' => ev = .returned (.bool true) ∧ w' = ((((w.alloc (.cells #[.pointer (some ⟨t, 0, none⟩)] 128)).alloc (.cells #[.pointer (some ⟨1, 128, none⟩), .pointer (some ⟨w.heap.size, 0, none⟩), .int .u64 150] 144)).alloc (.cells #[.pointer (some ⟨1, 128, none⟩), .pointer (some ⟨w.heap.size, 0, none⟩), .int .u64 150] 144)).alloc (.cells #[.int .i64 c] 126)).setCell ⟨t, 0, none⟩ (.int .i64 c) := by
 have h6 := @run_callFunc_extern Tryz.prog 102 _ (fun args => ReflectliteValue.unpack (args.getD 0 (.tuple #[]))) Tryz.func102 (by kernel_rfl) (by kernel_rfl) (by kernel_rfl) (by kernel_rfl)
 have h7 := @run_callFunc_extern Tryz.prog 103 _ (ReflectliteValue.methodAny (ReflectliteValue.valueError "reflectlite.Value.Type" 0) (fun t _ _ _ => ReflectliteType.toType t)) Tryz.func103 (by kernel_rfl) (by kernel_rfl) (by kernel_rfl) (by kernel_rfl)
 have h8 := @run_callFunc_extern Tryz.prog 104 _ (ReflectliteValue.method (ReflectliteValue.valueError "reflectlite.Value.IsNil" 0) ReflectliteValue.isNil) Tryz.func104 (by kernel_rfl) (by kernel_rfl) (by kernel_rfl) (by kernel_rfl)
 have h27 := @run_callFunc_extern Tryz.prog 173 _ (ReflectliteType.abiMethod fun t => do pure (.int .u8 (← Rtype.kind t))) Tryz.func173 (by kernel_rfl) (by kernel_rfl) (by kernel_rfl) (by kernel_rfl)
 have h37 := @run_callFunc_extern Tryz.prog 183 _ (ReflectliteType.method ReflectliteType.elem) Tryz.func183 (by kernel_rfl) (by kernel_rfl) (by kernel_rfl) (by kernel_rfl)
 have h38 := @run_callFunc_extern Tryz.prog 184 _ (ReflectliteType.relation "Implements" ReflectliteType.implements_) Tryz.func184 (by kernel_rfl) (by kernel_rfl) (by kernel_rfl) (by kernel_rfl)
 have h10 := @run_callFunc_extern Tryz.prog 125 _ ReflectliteType.typeOf Tryz.func125 (by kernel_rfl) (by kernel_rfl) (by kernel_rfl) (by kernel_rfl)
 have h35 := @run_callFunc_extern Tryz.prog 181 _ (ReflectliteType.relation "AssignableTo" ReflectliteType.assignableTo) Tryz.func181 (by kernel_rfl) (by kernel_rfl) (by kernel_rfl) (by kernel_rfl)
 have h11 := @run_callFunc_extern Tryz.prog 126 _ (ReflectliteValue.method (ReflectliteValue.valueError "reflectlite.Value.Elem" 0) ReflectliteValue.elem) Tryz.func126 (by kernel_rfl) (by kernel_rfl) (by kernel_rfl) (by kernel_rfl)
 have h12 := @run_callFunc_extern Tryz.prog 127 _ ReflectliteValue.set Tryz.func127 (by kernel_rfl) (by kernel_rfl) (by kernel_rfl) (by kernel_rfl)
 have tO := typeOfF
 have mA := methodAssignableTo
 have aF := assignableF
 have vF := valueOfF
 have f6 := valueOfP
 have f7 := typeP
 have mK := methodKind
 have mE := methodElem
 have mI := methodImplements
 have kP := kindP
 have kF := kindF
 have eP := elemP
 have iF := implementsF
 have hlt : 0 < w.heap.size := World.block_lt_of_cell? w _ hg
 have htl : t < w.heap.size := World.block_lt_of_cell? w _ ht0
 have n8 := isNilP ⟨w.heap.size, 0, none⟩ ⟨t, 0, none⟩ ((w.alloc (.cells #[.pointer (some ⟨t, 0, none⟩)] 128)).alloc (.cells #[.pointer (some ⟨1, 128, none⟩), .pointer (some ⟨w.heap.size, 0, none⟩), .int .u64 150] 144)) (by simp)
 have hg2 : ((w.alloc (.cells #[.pointer (some ⟨t, 0, none⟩)] 128)).alloc (.cells #[.pointer (some ⟨1, 128, none⟩), .pointer (some ⟨w.heap.size, 0, none⟩), .int .u64 150] 144)).cell? ⟨0, 0, none⟩ = some (.iface 176 (.agg #[.pointer (some ⟨1, 101, none⟩)])) := by
  rw [World.cell?_alloc_lt _ _ ⟨0, 0, none⟩ (by simp <;> omega), World.cell?_alloc_lt _ _ ⟨0, 0, none⟩ hlt]; exact hg
 have el := elemVP ⟨w.heap.size, 0, none⟩ ⟨t, 0, none⟩ (((w.alloc (.cells #[.pointer (some ⟨t, 0, none⟩)] 128)).alloc (.cells #[.pointer (some ⟨1, 128, none⟩), .pointer (some ⟨w.heap.size, 0, none⟩), .int .u64 150] 144)).alloc (.cells #[.pointer (some ⟨1, 128, none⟩), .pointer (some ⟨w.heap.size, 0, none⟩), .int .u64 150] 144)) (by rw [World.cell?_alloc_lt _ _ ⟨w.heap.size, 0, none⟩ (by simp; omega)]; simp)
 have st := setF t (w.heap.size + 1 + 1 + 1) c old ((((w.alloc (.cells #[.pointer (some ⟨t, 0, none⟩)] 128)).alloc (.cells #[.pointer (some ⟨1, 128, none⟩), .pointer (some ⟨w.heap.size, 0, none⟩), .int .u64 150] 144)).alloc (.cells #[.pointer (some ⟨1, 128, none⟩), .pointer (some ⟨w.heap.size, 0, none⟩), .int .u64 150] 144)).alloc (.cells #[.int .i64 c] 126))
  (by rw [World.cell?_alloc_at _ _ _ _ (by simp)]; rfl)
  (by rw [World.cell?_alloc_lt _ _ ⟨t, 0, none⟩ (by simp; omega), World.cell?_alloc_lt _ _ ⟨t, 0, none⟩ (by simp; omega), World.cell?_alloc_lt _ _ ⟨t, 0, none⟩ (by simp; omega), World.cell?_alloc_lt _ _ ⟨t, 0, none⟩ htl]; exact ht0)
  (by rw [World.frozen?_alloc_old _ _ ⟨t, 0, none⟩ (by simp; omega), World.frozen?_alloc_old _ _ ⟨t, 0, none⟩ (by simp; omega), World.frozen?_alloc_old _ _ ⟨t, 0, none⟩ (by simp; omega), World.frozen?_alloc_old _ _ ⟨t, 0, none⟩ (Nat.ne_of_lt htl)]; exact hf0)
 go_enter Tryz.func85, Tryz.ntmps85
 go_wp2
 refine wp_loop_rounds 1 ?_
 rw [rounds_succ]
 go_wp2
 go_ret
 exact ⟨rfl, rfl⟩
end Go.Proofs.YtcblpoeeembniabGreatDoor

/- What is wrong with an order, plain. -/
namespace Go.Proofs.YtcblpoeeembniabGreatDoor
set_option linter.unusedVariables false

def idsT (ts : List TypeV) : List Int := ts.map (·.id)
def idsI (xs : List ItemV) : List Int := xs.map (·.id)
def onceAt (l : List Int) (i : Nat) : Bool := ! hasI (l.take i) (l.getD i 0)
def onceB (l : List Int) : Bool := (List.range l.length).all (onceAt l)
def kindItem (c : Int) (x : ItemV) : Bool := decide (x.cls < c)
def kindPair (c : Int) (p : PairV) : Bool := decide (p.a < c) && decide (p.b < c)
def kindsB (r : ReqV) : Bool := r.items.all (kindItem r.classes) && r.pairs.all (kindPair r.classes)
def namesB (r : ReqV) : Bool := masterB r && onceB (idsT r.types) && onceB (idsI r.items) && kindsB r
def fitsM (t : TypeV) (x : ItemV) : Bool := fitsB x t
def unitsB (r : ReqV) : Bool := r.items.all (fitsM (masterV r))
def standsB (p : PalletV) (t : TypeV) : Bool := decide (t.wd ≤ p.wd) && decide (t.dp ≤ p.dp) && decide (t.ht ≤ p.ht) && decide (t.tare + t.gram ≤ p.gram)
def loadsB (r : ReqV) : Bool := r.types.all (standsB r.pal)
def classI (r : ReqV) : Int := if boundsB r = false then 2 else if namesB r = false then 3 else if tableB r.pairs r.classes = false then 4 else if unitsB r = false then 5 else if loadsB r = false then 6 else 0

theorem idsT_len (ts : List TypeV) : (idsT ts).length = ts.length := by simp [idsT]
theorem idsI_len (ts : List ItemV) : (idsI ts).length = ts.length := by simp [idsI]
theorem idsT_step (ts : List TypeV) (k : Nat) (h : k < ts.length) : idsT (ts.take (k + 1)) = idsT (ts.take k) ++ [(ts.getD k default).id] := by
 have hg : ts.getD k default = ts[k] := by simp [h]
 rw [List.take_succ_eq_append_getElem h, hg, idsT, List.map_append]; rfl
theorem idsI_step (ts : List ItemV) (k : Nat) (h : k < ts.length) : idsI (ts.take (k + 1)) = idsI (ts.take k) ++ [(ts.getD k default).id] := by
 have hg : ts.getD k default = ts[k] := by simp [h]
 rw [List.take_succ_eq_append_getElem h, hg, idsI, List.map_append]; rfl
theorem onceB_step (l : List Int) (k : Nat) (h0 : (List.range k).all (onceAt l) = true) (h1 : onceAt l k = true) : (List.range (k + 1)).all (onceAt l) = true := by
 rw [List.range_succ, List.all_append, h0]; simp [h1]
theorem onceB_miss (l : List Int) (k : Nat) (hk : k < l.length) (h1 : onceAt l k = false) : onceB l = false := by
 unfold onceB
 rw [List.all_eq_false]
 exact ⟨k, List.mem_range.2 hk, by simp [h1]⟩
theorem pal_nums (r : ReqV) (h : boundsB r = true) : ∀ t ∈ r.types, 0 ≤ t.tare ∧ t.tare ≤ 100000 ∧ 1 ≤ t.gram ∧ t.gram ≤ 100000 := by
 intro t ht
 simp only [boundsB, Bool.and_eq_true] at h
 have h5 := h.1.1.2
 simp only [typesB, Bool.and_eq_true, List.all_eq_true] at h5
 have := h5.2 t ht
 simp only [TypeV.ok, typeB, Bool.and_eq_true, inB_iff] at this
 omega
theorem class_bounds {r : ReqV} (h : boundsB r = false) : classI r = 2 := by simp [classI, h]
theorem class_names {r : ReqV} (h1 : boundsB r = true) (h : namesB r = false) : classI r = 3 := by simp [classI, h1, h]
theorem class_table {r : ReqV} (h1 : boundsB r = true) (h2 : namesB r = true) (h : tableB r.pairs r.classes = false) : classI r = 4 := by simp [classI, h1, h2, h]
theorem class_units {r : ReqV} (h1 : boundsB r = true) (h2 : namesB r = true) (h3 : tableB r.pairs r.classes = true) (h : unitsB r = false) : classI r = 5 := by simp [classI, h1, h2, h3, h]
theorem class_loads {r : ReqV} (h1 : boundsB r = true) (h2 : namesB r = true) (h3 : tableB r.pairs r.classes = true) (h4 : unitsB r = true) (h : loadsB r = false) : classI r = 6 := by simp [classI, h1, h2, h3, h4, h]
theorem class_none {r : ReqV} (h1 : boundsB r = true) (h2 : namesB r = true) (h3 : tableB r.pairs r.classes = true) (h4 : unitsB r = true) (h : loadsB r = true) : classI r = 0 := by simp [classI, h1, h2, h3, h4, h]
theorem bounds_lens {r : ReqV} (h : boundsB r = true) : r.pairs.length ≤ 16 ∧ r.types.length ≤ 5 ∧ r.items.length ≤ 8 := by
 simp only [boundsB, Bool.and_eq_true] at h
 have h4 := h.1.1.1.2
 have h5 := h.1.1.2
 have h7 := h.2
 simp only [pairsB, Bool.and_eq_true, decide_eq_true_eq] at h4
 simp only [typesB, Bool.and_eq_true, inB_iff] at h5
 simp only [itemsB, Bool.and_eq_true, decide_eq_true_eq] at h7
 omega
end Go.Proofs.YtcblpoeeembniabGreatDoor

/- The program's Class: names, units, loads, the fault, its class. -/
namespace Go.Proofs.YtcblpoeeembniabGreatDoor
open Go.RowKit
set_option linter.unusedVariables false
set_option linter.unusedSimpArgs false

theorem app_ints {B n g cap : Nat} {w wr w1 : World} {v' : Value} {L : List Int} {x : Int} {t : TypeId} (hn : L.length = n)
 (hown : wr.ownsRow B 3 1 (.slice (some ⟨g, 0, none⟩) n cap) n (ci L)) (hbel : Below B w wr) (hB : B ≤ wr.heap.size)
 (h1 : w1.ownsRow B 3 1 v' (n + 1) (ci L ++ [.int .i64 x])) (h2 : (wr.alloc (.cells #[.int .i64 x] t)).grownBy w1 (Value.slice (some ⟨g, 0, none⟩) n cap).ownBlock)
 (h3 : v' = .slice none 0 0 ↔ Value.slice (some ⟨g, 0, none⟩) n cap = .slice none 0 0 ∧ 1 = 0) :
 ∃ g' cap', v' = .slice (some ⟨g', 0, none⟩) (n + 1) cap' ∧ w1.ownsRow B 3 1 (.slice (some ⟨g', 0, none⟩) (n + 1) cap') (n + 1) (ci (L ++ [x])) ∧ Below B w w1 := by
 have hne : ¬ v' = .slice none 0 0 := fun h => by have := (h3.1 h).2; omega
 obtain ⟨g', cap', rfl⟩ := own_shape h1 hne
 refine ⟨g', cap', rfl, ?_, ?_⟩
 · simpa [ci] using h1
 · refine (hbel.alloc hB (.cells #[.int .i64 x] t)).grown h2 (by simp; omega) ?_
   intro j hj
   have : g = j := by simpa [Value.ownBlock] using hj
   rw [← this]
   exact own_base hown
set_option maxHeartbeats 1600000 in
theorem typeIds_any (a : Option Addr) (n c : Nat) (ts : List TypeV) (w : World) (hr : RdR TypeV.cells 7 w a n ts) (hn : n ≤ 1048600) :
 Calls Tryz.prog 111 #[.slice a n c] w fun e w' => ∃ g cap, e = .returned (.slice (some ⟨g, 0, none⟩) n cap) ∧ w'.ownsRow w.heap.size 3 1 (.slice (some ⟨g, 0, none⟩) n cap) n (ci (idsT ts)) ∧ Below w.heap.size w w' := by
 obtain ⟨i0, hi, hz0, hz1, hz2⟩ := info_parts Tryz.infoInt
 have hown0 : (w.alloc (.cells #[] 3)).ownsRow w.heap.size 3 1 (.slice (some ⟨w.heap.size, 0, none⟩) 0 0) 0 [] := World.ownsRow_lit w #[] 0 (Nat.le_refl _) (Nat.zero_le _) rfl
 have hlen := hr.1
 have HLEN := hide hlen
 clear hlen
 go_enter Tryz.func111, Tryz.ntmps111
 go_wp2
 go_loopw [3, 9] (fun o i wr => ∃ k g cap : Nat, k ≤ n ∧ i = .int .i64 (k : Int) ∧ o = .slice (some ⟨g, 0, none⟩) k cap ∧ wr.ownsRow w.heap.size 3 1 (.slice (some ⟨g, 0, none⟩) k cap) k (ci (idsT (ts.take k))) ∧ Below w.heap.size w wr) (fun _ i _ => n - (intOf i).toNat)
 case atStart => exact ⟨0, w.heap.size, 0, Nat.zero_le _, rfl, rfl, by simpa [idsT, ci] using hown0, (Below.refl _ _).alloc (Nat.le_refl _) _⟩
 case round =>
  obtain ⟨k, g, cap, hk, rfl, rfl, hown, hbel⟩ := hrel
  clear hown0
  have hsz := hbel.size
  by_cases hlt : k < n
  · obtain ⟨b, off, rfl, hc⟩ := hr.2 k hlt
    have hl : (idsT (ts.take k)).length = k := by rw [idsT_len, List.length_take, unhide HLEN]; omega
    have HL := hide hl
    have HST := hide (idsT_step ts k (by rw [unhide HLEN]; exact hlt))
    generalize ts.getD k default = q at hc HST
    have d0 : wr.cell? ⟨b, off + k * 7, none⟩ = some (.int .i64 q.id) := (hbel.cell (World.block_lt_of_cell? _ _ (hc 0 (by omega)))).trans (hc 0 (by omega))
    have d1 : wr.cell? ⟨b, off + k * 7 + 1, none⟩ = some (.int .i64 q.wd) := (hbel.cell (World.block_lt_of_cell? _ _ (hc 1 (by omega)))).trans (hc 1 (by omega))
    have d2 : wr.cell? ⟨b, off + k * 7 + 2, none⟩ = some (.int .i64 q.ht) := (hbel.cell (World.block_lt_of_cell? _ _ (hc 2 (by omega)))).trans (hc 2 (by omega))
    have d3 : wr.cell? ⟨b, off + k * 7 + 3, none⟩ = some (.int .i64 q.dp) := (hbel.cell (World.block_lt_of_cell? _ _ (hc 3 (by omega)))).trans (hc 3 (by omega))
    have d4 : wr.cell? ⟨b, off + k * 7 + 4, none⟩ = some (.int .i64 q.tare) := (hbel.cell (World.block_lt_of_cell? _ _ (hc 4 (by omega)))).trans (hc 4 (by omega))
    have d5 : wr.cell? ⟨b, off + k * 7 + 5, none⟩ = some (.int .i64 q.gram) := (hbel.cell (World.block_lt_of_cell? _ _ (hc 5 (by omega)))).trans (hc 5 (by omega))
    have d6 : wr.cell? ⟨b, off + k * 7 + 6, none⟩ = some (.int .i64 q.cost) := (hbel.cell (World.block_lt_of_cell? _ _ (hc 6 (by omega)))).trans (hc 6 (by omega))
    have HBB := hide hbel
    have HOW := hide hown
    clear hl hc hr hbel hown
    go_wp2_with (first
     | (at_builtin; refine wpList_append_own _ rfl _ _ 29 rfl w.heap.size 3 i0 (.int .i64 0) 1 8 Tryz.underlying29 hi hz0 hz1 hz2 rfl (by decide) (.slice (some ⟨g, 0, none⟩) k cap) k (ci (idsT (ts.take k))) rfl ((HOW.out.alloc _).alloc _) ⟨wr.heap.size + 1, 0, none⟩ 1 1 [.int .i64 q.id] rfl rfl (by rw [← show (wr.alloc (.cells #[.int .i64 q.id, .int .i64 q.wd, .int .i64 q.ht, .int .i64 q.dp, .int .i64 q.tare, .int .i64 q.gram, .int .i64 q.cost] 54)).heap.size = wr.heap.size + 1 by simp]; exact cell_one_new _ _ _) (by simp [Value.oneCell']) (by unfold maxLen; omega) (by omega) (by simp; omega) ?_; intro v' w1 h1 h2 h3)
     | go_in)
    obtain ⟨g', cap', hv, ho, hb⟩ := app_ints HL.out (HOW.out.alloc (.cells #[.int .i64 q.id, .int .i64 q.wd, .int .i64 q.ht, .int .i64 q.dp, .int .i64 q.tare, .int .i64 q.gram, .int .i64 q.cost] 54)) (HBB.out.alloc hsz _) (by simp; omega) h1 h2 h3
    go_roundw
    case rel => exact ⟨k + 1, g', cap', by omega, by go_num, hv, by rw [unhide HST]; exact ho, hb⟩
    case measure => simp [intOf]; omega
  · have hkn : k = n := by omega
    subst hkn
    go_wp2
    go_ret
    refine ⟨g, cap, rfl, ?_, hbel⟩
    rwa [List.take_of_length_le (by rw [unhide HLEN]; exact Nat.le_refl _)] at hown
set_option maxHeartbeats 1600000 in
theorem itemIds_any (a : Option Addr) (n c : Nat) (ts : List ItemV) (w : World) (hr : RdR ItemV.cells 7 w a n ts) (hn : n ≤ 1048600) :
 Calls Tryz.prog 112 #[.slice a n c] w fun e w' => ∃ g cap, e = .returned (.slice (some ⟨g, 0, none⟩) n cap) ∧ w'.ownsRow w.heap.size 3 1 (.slice (some ⟨g, 0, none⟩) n cap) n (ci (idsI ts)) ∧ Below w.heap.size w w' := by
 obtain ⟨i0, hi, hz0, hz1, hz2⟩ := info_parts Tryz.infoInt
 have hown0 : (w.alloc (.cells #[] 3)).ownsRow w.heap.size 3 1 (.slice (some ⟨w.heap.size, 0, none⟩) 0 0) 0 [] := World.ownsRow_lit w #[] 0 (Nat.le_refl _) (Nat.zero_le _) rfl
 have hlen := hr.1
 have HLEN := hide hlen
 clear hlen
 go_enter Tryz.func112, Tryz.ntmps112
 go_wp2
 go_loopw [3, 9] (fun o i wr => ∃ k g cap : Nat, k ≤ n ∧ i = .int .i64 (k : Int) ∧ o = .slice (some ⟨g, 0, none⟩) k cap ∧ wr.ownsRow w.heap.size 3 1 (.slice (some ⟨g, 0, none⟩) k cap) k (ci (idsI (ts.take k))) ∧ Below w.heap.size w wr) (fun _ i _ => n - (intOf i).toNat)
 case atStart => exact ⟨0, w.heap.size, 0, Nat.zero_le _, rfl, rfl, by simpa [idsI, ci] using hown0, (Below.refl _ _).alloc (Nat.le_refl _) _⟩
 case round =>
  obtain ⟨k, g, cap, hk, rfl, rfl, hown, hbel⟩ := hrel
  clear hown0
  have hsz := hbel.size
  by_cases hlt : k < n
  · obtain ⟨b, off, rfl, hc⟩ := hr.2 k hlt
    have hl : (idsI (ts.take k)).length = k := by rw [idsI_len, List.length_take, unhide HLEN]; omega
    have HL := hide hl
    have HST := hide (idsI_step ts k (by rw [unhide HLEN]; exact hlt))
    generalize ts.getD k default = q at hc HST
    have d0 : wr.cell? ⟨b, off + k * 7, none⟩ = some (.int .i64 q.id) := (hbel.cell (World.block_lt_of_cell? _ _ (hc 0 (by omega)))).trans (hc 0 (by omega))
    have d1 : wr.cell? ⟨b, off + k * 7 + 1, none⟩ = some (.int .i64 q.wd) := (hbel.cell (World.block_lt_of_cell? _ _ (hc 1 (by omega)))).trans (hc 1 (by omega))
    have d2 : wr.cell? ⟨b, off + k * 7 + 2, none⟩ = some (.int .i64 q.ht) := (hbel.cell (World.block_lt_of_cell? _ _ (hc 2 (by omega)))).trans (hc 2 (by omega))
    have d3 : wr.cell? ⟨b, off + k * 7 + 3, none⟩ = some (.int .i64 q.dp) := (hbel.cell (World.block_lt_of_cell? _ _ (hc 3 (by omega)))).trans (hc 3 (by omega))
    have d4 : wr.cell? ⟨b, off + k * 7 + 4, none⟩ = some (.int .i64 q.gram) := (hbel.cell (World.block_lt_of_cell? _ _ (hc 4 (by omega)))).trans (hc 4 (by omega))
    have d5 : wr.cell? ⟨b, off + k * 7 + 5, none⟩ = some (.int .i64 q.cls) := (hbel.cell (World.block_lt_of_cell? _ _ (hc 5 (by omega)))).trans (hc 5 (by omega))
    have d6 : wr.cell? ⟨b, off + k * 7 + 6, none⟩ = some (.int .i64 q.cnt) := (hbel.cell (World.block_lt_of_cell? _ _ (hc 6 (by omega)))).trans (hc 6 (by omega))
    have HBB := hide hbel
    have HOW := hide hown
    clear hl hc hr hbel hown
    go_wp2_with (first
     | (at_builtin; refine wpList_append_own _ rfl _ _ 29 rfl w.heap.size 3 i0 (.int .i64 0) 1 8 Tryz.underlying29 hi hz0 hz1 hz2 rfl (by decide) (.slice (some ⟨g, 0, none⟩) k cap) k (ci (idsI (ts.take k))) rfl ((HOW.out.alloc _).alloc _) ⟨wr.heap.size + 1, 0, none⟩ 1 1 [.int .i64 q.id] rfl rfl (by rw [← show (wr.alloc (.cells #[.int .i64 q.id, .int .i64 q.wd, .int .i64 q.ht, .int .i64 q.dp, .int .i64 q.gram, .int .i64 q.cls, .int .i64 q.cnt] 89)).heap.size = wr.heap.size + 1 by simp]; exact cell_one_new _ _ _) (by simp [Value.oneCell']) (by unfold maxLen; omega) (by omega) (by simp; omega) ?_; intro v' w1 h1 h2 h3)
     | go_in)
    obtain ⟨g', cap', hv, ho, hb⟩ := app_ints HL.out (HOW.out.alloc (.cells #[.int .i64 q.id, .int .i64 q.wd, .int .i64 q.ht, .int .i64 q.dp, .int .i64 q.gram, .int .i64 q.cls, .int .i64 q.cnt] 89)) (HBB.out.alloc hsz _) (by simp; omega) h1 h2 h3
    go_roundw
    case rel => exact ⟨k + 1, g', cap', by omega, by go_num, hv, by rw [unhide HST]; exact ho, hb⟩
    case measure => simp [intOf]; omega
  · have hkn : k = n := by omega
    subst hkn
    go_wp2
    go_ret
    refine ⟨g, cap, rfl, ?_, hbel⟩
    rwa [List.take_of_length_le (by rw [unhide HLEN]; exact Nat.le_refl _)] at hown
set_option maxHeartbeats 1600000 in
theorem eachOnce_any (g n cap : Nat) (L : List Int) (w : World) (hr : Rd w (some ⟨g, 0, none⟩) n L) (hn : n ≤ 1048600) (hcap : n ≤ cap) (hc2 : cap ≤ 9223372036854775807) :
 Calls Tryz.prog 110 #[.slice (some ⟨g, 0, none⟩) n cap] w fun e w' => e = .returned (.bool (onceB L)) ∧ w' = w := by
 have hlen := hr.1
 have HLEN := hide hlen
 clear hlen
 go_enter Tryz.func110, Tryz.ntmps110
 go_wp2
 go_loop [7] (fun i => ∃ k : Nat, k ≤ n ∧ i = .int .i64 (k : Int) ∧ (List.range k).all (onceAt L) = true) (fun i => n - (intOf i).toNat)
 case atStart => exact ⟨0, Nat.zero_le _, rfl, rfl⟩
 case round =>
  obtain ⟨k, hk, rfl, hall⟩ := hrel
  have HA := hide hall
  clear hall
  by_cases hlt : k < n
  · obtain ⟨b, off, hbo, hc⟩ := hr.2 k hlt
    simp only [Option.some.injEq, Addr.mk.injEq] at hbo
    obtain ⟨rfl, rfl, _⟩ := hbo
    rw [Nat.zero_add] at hc
    have hrk : Rd w (some ⟨g, 0, none⟩) k (L.take k) := by
     refine ⟨by rw [List.length_take, unhide HLEN]; omega, fun i hi => ?_⟩
     obtain ⟨b, off, hbo, hc⟩ := hr.2 i (by omega)
     refine ⟨b, off, hbo, ?_⟩
     have e : (L.take k).getD i 0 = L.getD i 0 := by simp [List.getD_eq_getElem?_getD, hi]
     rw [e]; exact hc
    have HRK := hide hrk
    have HOA : Hid (onceAt L k = ! hasI (L.take k) (L.getD k 0)) := rfl
    have HM := hide (onceB_miss L k (by rw [unhide HLEN]; exact hlt))
    have HS := hide (onceB_step L k HA.out)
    generalize L.getD k 0 = x at hc HOA
    generalize hh : hasI (L.take k) x = bb at HOA
    have HH := hide hh
    clear hh hr hrk
    have hkc : (k : Int) ≤ (cap : Int) := by omega
    cases bb
    · go_wp2_with fail
      refine (containsInt_any _ k cap (L.take k) x w HRK.out (by omega)).mono ?_
      rintro e w' ⟨rfl, hw⟩
      subst w'
      rw [unhide HH]
      go_wp2
      go_round
      case rel => exact ⟨k + 1, by omega, by go_num, HS.out (by rw [unhide HOA]; rfl)⟩
      case measure => simp [intOf]; omega
    · go_wp2_with fail
      refine (containsInt_any _ k cap (L.take k) x w HRK.out (by omega)).mono ?_
      rintro e w' ⟨rfl, hw⟩
      subst w'
      rw [unhide HH]
      go_wp2
      go_ret
      exact ⟨ret_bool (HM.out (by rw [unhide HOA]; rfl)).symm, rfl⟩
  · go_wp2
    go_ret
    refine ⟨ret_bool ?_, rfl⟩
    unfold onceB
    rw [unhide HLEN, show n = k by omega]
    exact HA.out.symm
end Go.Proofs.YtcblpoeeembniabGreatDoor

/- The program's Class. -/
namespace Go.Proofs.YtcblpoeeembniabGreatDoor
open Go.RowKit
set_option linter.unusedVariables false
set_option linter.unusedSimpArgs false

theorem kinds_no1 {r : ReqV} (h : r.items.all (kindItem r.classes) = false) : kindsB r = false := by simp [kindsB, h]
theorem kinds_no2 {r : ReqV} (h : r.pairs.all (kindPair r.classes) = false) : kindsB r = false := by simp [kindsB, h]
theorem kinds_yes {r : ReqV} (h1 : r.items.all (kindItem r.classes) = true) (h : r.pairs.all (kindPair r.classes) = true) : kindsB r = true := by simp [kindsB, h, h1]
set_option maxHeartbeats 2000000 in
theorem kindsOk_any (r : ReqV) (h : ReqH) (w : World) (hr : RdReq w r h) (hs : r.small) :
 Calls Tryz.prog 113 #[reqVal r h] w fun e w' => e = .returned (.bool (kindsB r)) ∧ Below w.heap.size w w' := by
 unfold ReqV.small at hs
 unfold reqVal
 obtain ⟨hp0, _, hi0⟩ := hr
 generalize h.ai = ia at *
 generalize h.ap = pa at *
 go_enter Tryz.func113, Tryz.ntmps113
 go_wp2
 have HX : Blk (w.alloc (.cells #[.int .i64 r.way, .int .i64 r.pal.wd, .int .i64 r.pal.dp, .int .i64 r.pal.ht, .int .i64 r.pal.gram, .int .i64 r.classes, .slice pa r.pairs.length h.cp, .slice h.at' r.types.length h.ct, .int .i64 r.master, .slice ia r.items.length h.ci] 41)) w.heap.size [.int .i64 r.way, .int .i64 r.pal.wd, .int .i64 r.pal.dp, .int .i64 r.pal.ht, .int .i64 r.pal.gram, .int .i64 r.classes, .slice pa r.pairs.length h.cp, .slice h.at' r.types.length h.ct, .int .i64 r.master, .slice ia r.items.length h.ci] := Blk.allocAt [.int .i64 r.way, .int .i64 r.pal.wd, .int .i64 r.pal.dp, .int .i64 r.pal.ht, .int .i64 r.pal.gram, .int .i64 r.classes, .slice pa r.pairs.length h.cp, .slice h.at' r.types.length h.ct, .int .i64 r.master, .slice ia r.items.length h.ci] rfl
 have HB : Below w.heap.size w (w.alloc (.cells #[.int .i64 r.way, .int .i64 r.pal.wd, .int .i64 r.pal.dp, .int .i64 r.pal.ht, .int .i64 r.pal.gram, .int .i64 r.classes, .slice pa r.pairs.length h.cp, .slice h.at' r.types.length h.ct, .int .i64 r.master, .slice ia r.items.length h.ci] 41)) := (Below.refl w.heap.size w).alloc (Nat.le_refl _) _
 have lt0 : w.heap.size < (w.alloc (.cells #[.int .i64 r.way, .int .i64 r.pal.wd, .int .i64 r.pal.dp, .int .i64 r.pal.ht, .int .i64 r.pal.gram, .int .i64 r.classes, .slice pa r.pairs.length h.cp, .slice h.at' r.types.length h.ct, .int .i64 r.master, .slice ia r.items.length h.ci] 41)).heap.size := by simp
 have HI : Hid (RdR ItemV.cells 7 (w.alloc (.cells #[.int .i64 r.way, .int .i64 r.pal.wd, .int .i64 r.pal.dp, .int .i64 r.pal.ht, .int .i64 r.pal.gram, .int .i64 r.classes, .slice pa r.pairs.length h.cp, .slice h.at' r.types.length h.ct, .int .i64 r.master, .slice ia r.items.length h.ci] 41)) ia r.items.length r.items) := hi0.mono (by omega) ItemV.len HB
 have HP : Hid (RdR PairV.cells 2 (w.alloc (.cells #[.int .i64 r.way, .int .i64 r.pal.wd, .int .i64 r.pal.dp, .int .i64 r.pal.ht, .int .i64 r.pal.gram, .int .i64 r.classes, .slice pa r.pairs.length h.cp, .slice h.at' r.types.length h.ct, .int .i64 r.master, .slice ia r.items.length h.ci] 41)) pa r.pairs.length r.pairs) := hp0.mono (by omega) PairV.len HB
 generalize (w.alloc (.cells #[.int .i64 r.way, .int .i64 r.pal.wd, .int .i64 r.pal.dp, .int .i64 r.pal.ht, .int .i64 r.pal.gram, .int .i64 r.classes, .slice pa r.pairs.length h.cp, .slice h.at' r.types.length h.ct, .int .i64 r.master, .slice ia r.items.length h.ci] 41)) = W at *
 obtain ⟨G, hG⟩ : ∃ G, G = w.heap.size := ⟨_, rfl⟩
 rw [← hG] at HX lt0 ⊢
 have HG := hide hG
 have HBH := hide HB
 have HXX := hide HX
 clear hG HB HX hp0 hi0
 go_loopw [10] (fun i wr => ∃ k : Nat, k ≤ r.items.length ∧ i = .int .i64 (k : Int) ∧ (r.items.take k).all (kindItem r.classes) = true ∧ Below W.heap.size W wr) (fun i _ => r.items.length - (intOf i).toNat)
 case atStart => exact ⟨0, Nat.zero_le _, rfl, rfl, Below.refl _ _⟩
 case round =>
  obtain ⟨k, hk, rfl, hall, hb⟩ := hrel
  have A1 := Blk.below hb lt0 HXX.out
  have a5 : wr.cell? ⟨G, 5, none⟩ = some (.int .i64 r.classes) := (A1 5 (by simp)).1
  have a6 : wr.cell? ⟨G, 6, none⟩ = some (.slice pa r.pairs.length h.cp) := (A1 6 (by simp)).1
  have z0 : G < wr.heap.size := Nat.lt_of_lt_of_le lt0 hb.size
  have HBB := hide hb
  have HA := hide hall
  by_cases hlt : k < r.items.length
  · obtain ⟨b, off, rfl, hc⟩ := HI.out.2 k hlt
    have HST := hide (all_step (kindItem r.classes) r.items k hlt hall)
    have HFE := hide (all_fell (kindItem r.classes) r.items k hlt)
    generalize r.items.getD k default = q at hc HST HFE
    have d0 : wr.cell? ⟨b, off + k * 7, none⟩ = some (.int .i64 q.id) := (hb.cell (World.block_lt_of_cell? _ _ (hc 0 (by omega)))).trans (hc 0 (by omega))
    have d1 : wr.cell? ⟨b, off + k * 7 + 1, none⟩ = some (.int .i64 q.wd) := (hb.cell (World.block_lt_of_cell? _ _ (hc 1 (by omega)))).trans (hc 1 (by omega))
    have d2 : wr.cell? ⟨b, off + k * 7 + 2, none⟩ = some (.int .i64 q.ht) := (hb.cell (World.block_lt_of_cell? _ _ (hc 2 (by omega)))).trans (hc 2 (by omega))
    have d3 : wr.cell? ⟨b, off + k * 7 + 3, none⟩ = some (.int .i64 q.dp) := (hb.cell (World.block_lt_of_cell? _ _ (hc 3 (by omega)))).trans (hc 3 (by omega))
    have d4 : wr.cell? ⟨b, off + k * 7 + 4, none⟩ = some (.int .i64 q.gram) := (hb.cell (World.block_lt_of_cell? _ _ (hc 4 (by omega)))).trans (hc 4 (by omega))
    have d5 : wr.cell? ⟨b, off + k * 7 + 5, none⟩ = some (.int .i64 q.cls) := (hb.cell (World.block_lt_of_cell? _ _ (hc 5 (by omega)))).trans (hc 5 (by omega))
    have d6 : wr.cell? ⟨b, off + k * 7 + 6, none⟩ = some (.int .i64 q.cnt) := (hb.cell (World.block_lt_of_cell? _ _ (hc 6 (by omega)))).trans (hc 6 (by omega))
    clear hc hb hall A1
    by_cases hge : r.classes ≤ q.cls
    · have HF := hide (HFE.out (by unfold kindItem; simp; omega))
      go_wp2
      go_ret
      exact ⟨ret_bool (kinds_no1 HF.out).symm, HBH.out.trans ((bw_alloc HBB.out _).mono HBH.out.size)⟩
    · have HF := hide (HST.out (by unfold kindItem; simp; omega))
      go_wp2
      go_roundw
      case rel => exact ⟨k + 1, by omega, by go_num, unhide HF, bw_alloc HBB.out _⟩
      case measure => simp [intOf]; omega
  · have HIA := hide (all_whole (kindItem r.classes) r.items k (by omega) hall)
    clear hb hall HA HI
    obtain ⟨wo, rfl⟩ : ∃ wo : World, wo = wr := ⟨_, rfl⟩
    go_wp2
    go_loopw [23] (fun i wq => ∃ k : Nat, k ≤ r.pairs.length ∧ i = .int .i64 (k : Int) ∧ (r.pairs.take k).all (kindPair r.classes) = true ∧ Below W.heap.size W wq) (fun i _ => r.pairs.length - (intOf i).toNat)
    case atStart => exact ⟨0, Nat.zero_le _, rfl, rfl, unhide HBB⟩
    case round =>
     clear A1 a5 a6 z0
     obtain ⟨j, hj, rfl, hall, hb⟩ := hrel
     have A1 := Blk.below hb lt0 HXX.out
     have a5 : wr.cell? ⟨G, 5, none⟩ = some (.int .i64 r.classes) := (A1 5 (by simp)).1
     have z2 : G < wr.heap.size := Nat.lt_of_lt_of_le lt0 hb.size
     have HB2 := hide hb
     by_cases hlt2 : j < r.pairs.length
     · obtain ⟨b, off, rfl, hc⟩ := HP.out.2 j hlt2
       have HST := hide (all_step (kindPair r.classes) r.pairs j hlt2 hall)
       have HFE := hide (all_fell (kindPair r.classes) r.pairs j hlt2)
       generalize r.pairs.getD j default = q at hc HST HFE
       have d0 : wr.cell? ⟨b, off + j * 2, none⟩ = some (.int .i64 q.a) := (hb.cell (World.block_lt_of_cell? _ _ (hc 0 (by omega)))).trans (hc 0 (by omega))
       have d1 : wr.cell? ⟨b, off + j * 2 + 1, none⟩ = some (.int .i64 q.b) := (hb.cell (World.block_lt_of_cell? _ _ (hc 1 (by omega)))).trans (hc 1 (by omega))
       clear hc hb hall A1
       by_cases hge : r.classes ≤ q.a
       · have HF := hide (HFE.out (by unfold kindPair; simp; omega))
         go_wp2
         go_ret
         exact ⟨ret_bool (kinds_no2 HF.out).symm, HBH.out.trans ((bw_alloc HB2.out _).mono HBH.out.size)⟩
       by_cases hge2 : r.classes ≤ q.b
       · have HF := hide (HFE.out (by unfold kindPair; simp; omega))
         go_wp2
         go_ret
         exact ⟨ret_bool (kinds_no2 HF.out).symm, HBH.out.trans ((bw_alloc HB2.out _).mono HBH.out.size)⟩
       · have HF := hide (HST.out (by unfold kindPair; simp; omega))
         go_wp2
         go_roundw
         case rel => exact ⟨j + 1, by omega, by go_num, unhide HF, bw_alloc HB2.out _⟩
         case measure => simp [intOf]; omega
     · have HPA := hide (all_whole (kindPair r.classes) r.pairs j (by omega) hall)
       go_wp2
       go_ret
       exact ⟨ret_bool (kinds_yes HIA.out HPA.out).symm, HBH.out.trans (hb.mono HBH.out.size)⟩
theorem stands_eq (p : PalletV) (t : TypeV) (a b c d : Bool) (h1 : decide (t.wd ≤ p.wd) = a) (h2 : decide (t.dp ≤ p.dp) = b) (h3 : decide (t.ht ≤ p.ht) = c) (h4 : decide (t.tare + t.gram ≤ p.gram) = d) : standsB p t = (a && b && c && d) := by
 rw [standsB, h1, h2, h3, h4]
set_option maxHeartbeats 1600000 in
theorem standsOn_any (p : PalletV) (t : TypeV) (w : World) (h1 : 0 ≤ t.tare) (h2 : t.tare ≤ 100000) (h3 : 1 ≤ t.gram) (h4 : t.gram ≤ 100000) :
 Calls Tryz.prog 117 #[.agg #[.int .i64 t.id, .int .i64 t.wd, .int .i64 t.ht, .int .i64 t.dp, .int .i64 t.tare, .int .i64 t.gram, .int .i64 t.cost], .agg #[.int .i64 p.wd, .int .i64 p.dp, .int .i64 p.ht, .int .i64 p.gram]] w fun e w' => e = .returned (.bool (standsB p t)) ∧ Below w.heap.size w w' := by
 have HF := hide (stands_eq p t)
 cases d0 : decide (t.wd ≤ p.wd) <;> cases d1 : decide (t.dp ≤ p.dp) <;> cases d2 : decide (t.ht ≤ p.ht)
 all_goals
  have e0 := HF.out _ _ _ _ d0 d1 d2 rfl
  have HE := hide e0
  clear e0 HF
  go_enter Tryz.func117, Tryz.ntmps117
  go_wp2
  go_ret
  refine ⟨ret_boolF ?_, ((Below.refl w.heap.size w).alloc (Nat.le_refl _) _).alloc (by simp) _⟩
  rw [unhide HE]
  simp
end Go.Proofs.YtcblpoeeembniabGreatDoor

/- The program's Class. -/
namespace Go.Proofs.YtcblpoeeembniabGreatDoor
open Go.RowKit
set_option linter.unusedVariables false
set_option linter.unusedSimpArgs false

/-- The library's own variable that errors.As reads. -/
def ErrT (w : World) : Prop := w.cell? ⟨0, 0, none⟩ = some (.iface 176 (.agg #[.pointer (some ⟨1, 101, none⟩)]))
theorem ErrT.later {w w' : World} (h : ErrT w) (hb : Below w.heap.size w w') : ErrT w' := (hb.cell (World.block_lt_of_cell? w _ h)).trans h
set_option maxHeartbeats 2000000 in
theorem unitsOk_any (r : ReqV) (h : ReqH) (w : World) (hr : RdReq w r h) (hs : r.small) :
 Calls Tryz.prog 89 #[reqVal r h] w fun e w' => e = .returned (.bool (unitsB r)) ∧ Below w.heap.size w w' := by
 have htl : r.types.length ≤ 1048600 := by unfold ReqV.small at hs; omega
 have hil : r.items.length ≤ 1048600 := by unfold ReqV.small at hs; omega
 unfold reqVal
 go_enter Tryz.func89, Tryz.ntmps89
 go_wp2_with fail
 generalize hW : (w.alloc (.cells #[.int .i64 r.way, .int .i64 r.pal.wd, .int .i64 r.pal.dp, .int .i64 r.pal.ht, .int .i64 r.pal.gram, .int .i64 r.classes, .slice h.ap r.pairs.length h.cp, .slice h.at' r.types.length h.ct, .int .i64 r.master, .slice h.ai r.items.length h.ci] 41)) = w1 at *
 obtain ⟨hb, Kaw1, zaw1⟩ := en1 hW
 have hb := unhide hb
 have Hw1 : Hid (Below w.heap.size w w1) := hb
 clear hb hW
 have Qrw1 : Hid (RdReq w1 r h) := hr.mono Hw1.out
 obtain ⟨aw1_0, aw1_1, aw1_2, aw1_3, aw1_4, aw1_5, aw1_6, aw1_7, aw1_8, aw1_9⟩ := Blk.cs10 Kaw1.out
 refine (masterOf_any r h _ Qrw1.out htl).mono ?_
 rintro e w2 ⟨rfl, hbw2⟩
 clear aw1_0 aw1_1 aw1_2 aw1_3 aw1_4 aw1_5 aw1_6 aw1_7 aw1_8 aw1_9
 have Hw2 : Hid (Below w.heap.size w w2) := Hw1.out.trans (hbw2.mono Hw1.out.size)
 have Kaw2 := hide (Blk.below hbw2 zaw1 Kaw1.out)
 have zaw2 : w.heap.size < w2.heap.size := Nat.lt_of_lt_of_le zaw1 hbw2.size
 have Qrw2 : Hid (RdReq w2 r h) := Qrw1.out.mono hbw2
 clear Hw1 Kaw1 zaw1 Qrw1
 clear hbw2
 obtain ⟨aw2_0, aw2_1, aw2_2, aw2_3, aw2_4, aw2_5, aw2_6, aw2_7, aw2_8, aw2_9⟩ := Blk.cs10 Kaw2.out
 go_wp2
 clear aw2_0 aw2_1 aw2_2 aw2_3 aw2_4 aw2_5 aw2_6 aw2_7 aw2_8 aw2_9
 generalize hW : (w2.alloc (.cells #[.int .i64 (masterV r).id, .int .i64 (masterV r).wd, .int .i64 (masterV r).ht, .int .i64 (masterV r).dp, .int .i64 (masterV r).tare, .int .i64 (masterV r).gram, .int .i64 (masterV r).cost] 54)) = w3 at *
 obtain ⟨hb, Ktw3, ztw3⟩ := en1 hW
 have hb := unhide hb
 have Hw3 : Hid (Below w.heap.size w w3) := Hw2.out.trans (hb.mono Hw2.out.size)
 have Kaw3 := hide (Blk.below hb zaw2 Kaw2.out)
 have zaw3 : w.heap.size < w3.heap.size := Nat.lt_of_lt_of_le zaw2 hb.size
 have Qrw3 : Hid (RdReq w3 r h) := Qrw2.out.mono hb
 clear Hw2 Kaw2 zaw2 Qrw2
 clear hb hW
 have HI : Hid (RdR ItemV.cells 7 w3 h.ai r.items.length r.items) := Qrw3.out.2.2
 clear Qrw3
 have KA := Kaw3
 clear Kaw3 hr
 generalize h.ai = ia at *
 have HUN : Hid (unitsB r = r.items.all (fitsM (masterV r))) := rfl
 generalize masterV r = m at *
 go_loopw [15] (fun i wr => ∃ k : Nat, k ≤ r.items.length ∧ i = .int .i64 (k : Int) ∧ (r.items.take k).all (fitsM m) = true ∧ Below w3.heap.size w3 wr) (fun i _ => r.items.length - (intOf i).toNat)
 case atStart => exact ⟨0, Nat.zero_le _, rfl, rfl, Below.refl _ _⟩
 case round =>
  obtain ⟨k, hk, rfl, hall, hb⟩ := hrel
  have T1 := Blk.below hb ztw3 Ktw3.out
  obtain ⟨t0, t1, t2, t3, t4, t5, t6⟩ := Blk.cs7 T1
  have z0 : w2.heap.size < wr.heap.size := Nat.lt_of_lt_of_le ztw3 hb.size
  have HBB := hide hb
  by_cases hlt : k < r.items.length
  · obtain ⟨b, off, rfl, hc⟩ := HI.out.2 k hlt
    have HST := hide (all_step (fitsM m) r.items k hlt hall)
    have HFE := hide (all_fell (fitsM m) r.items k hlt)
    generalize r.items.getD k default = q at hc HST HFE
    have d0 : wr.cell? ⟨b, off + k * 7, none⟩ = some (.int .i64 q.id) := (hb.cell (World.block_lt_of_cell? _ _ (hc 0 (by omega)))).trans (hc 0 (by omega))
    have d1 : wr.cell? ⟨b, off + k * 7 + 1, none⟩ = some (.int .i64 q.wd) := (hb.cell (World.block_lt_of_cell? _ _ (hc 1 (by omega)))).trans (hc 1 (by omega))
    have d2 : wr.cell? ⟨b, off + k * 7 + 2, none⟩ = some (.int .i64 q.ht) := (hb.cell (World.block_lt_of_cell? _ _ (hc 2 (by omega)))).trans (hc 2 (by omega))
    have d3 : wr.cell? ⟨b, off + k * 7 + 3, none⟩ = some (.int .i64 q.dp) := (hb.cell (World.block_lt_of_cell? _ _ (hc 3 (by omega)))).trans (hc 3 (by omega))
    have d4 : wr.cell? ⟨b, off + k * 7 + 4, none⟩ = some (.int .i64 q.gram) := (hb.cell (World.block_lt_of_cell? _ _ (hc 4 (by omega)))).trans (hc 4 (by omega))
    have d5 : wr.cell? ⟨b, off + k * 7 + 5, none⟩ = some (.int .i64 q.cls) := (hb.cell (World.block_lt_of_cell? _ _ (hc 5 (by omega)))).trans (hc 5 (by omega))
    have d6 : wr.cell? ⟨b, off + k * 7 + 6, none⟩ = some (.int .i64 q.cnt) := (hb.cell (World.block_lt_of_cell? _ _ (hc 6 (by omega)))).trans (hc 6 (by omega))
    clear hc hb hall T1
    go_wp2_with fail
    refine (fits_any q m _).mono ?_
    rintro e w9 ⟨rfl, hb9⟩
    have H9 := hide (bw_call (bw_alloc HBB.out _) hb9)
    clear hb9
    cases hf : fitsB q m
    · have HF := hide (HFE.out hf)
      go_wp2
      go_ret
      refine ⟨ret_bool ?_, Hw3.out.trans (H9.out.mono Hw3.out.size)⟩
      rw [unhide HUN, unhide HF]
    · have HF := hide (HST.out hf)
      go_wp2
      go_roundw
      case rel => exact ⟨k + 1, by omega, by go_num, unhide HF, unhide H9⟩
      case measure => simp [intOf]; omega
  · have HIA := hide (all_whole (fitsM m) r.items k (by omega) hall)
    go_wp2
    go_ret
    refine ⟨ret_bool ?_, Hw3.out.trans (hb.mono Hw3.out.size)⟩
    rw [unhide HUN, unhide HIA]
set_option maxHeartbeats 2000000 in
theorem loadsOk_any (r : ReqV) (h : ReqH) (w : World) (hr : RdReq w r h) (hs : r.small) (hok : boundsB r = true) :
 Calls Tryz.prog 90 #[reqVal r h] w fun e w' => e = .returned (.bool (loadsB r)) ∧ Below w.heap.size w w' := by
 have htl : r.types.length ≤ 1048600 := by unfold ReqV.small at hs; omega
 have HN := hide (pal_nums r hok)
 have hty := hr.2.1
 clear hr hok
 unfold reqVal
 generalize h.at' = ta at *
 go_enter Tryz.func90, Tryz.ntmps90
 go_wp2
 generalize hW : (w.alloc (.cells #[.int .i64 r.way, .int .i64 r.pal.wd, .int .i64 r.pal.dp, .int .i64 r.pal.ht, .int .i64 r.pal.gram, .int .i64 r.classes, .slice h.ap r.pairs.length h.cp, .slice ta r.types.length h.ct, .int .i64 r.master, .slice h.ai r.items.length h.ci] 41)) = w1 at *
 obtain ⟨hb, Kaw1, zaw1⟩ := en1 hW
 have hb := unhide hb
 have Hw1 : Hid (Below w.heap.size w w1) := hb
 clear hb hW
 have HT : Hid (RdR TypeV.cells 7 w1 ta r.types.length r.types) := hty.mono (by omega) TypeV.len (Hw1.out.mono (Nat.le_refl _))
 clear hty
 have HUN : Hid (loadsB r = r.types.all (standsB r.pal)) := rfl
 go_loopw [8] (fun i wr => ∃ k : Nat, k ≤ r.types.length ∧ i = .int .i64 (k : Int) ∧ (r.types.take k).all (standsB r.pal) = true ∧ Below w1.heap.size w1 wr) (fun i _ => r.types.length - (intOf i).toNat)
 case atStart => exact ⟨0, Nat.zero_le _, rfl, rfl, Below.refl _ _⟩
 case round =>
  obtain ⟨k, hk, rfl, hall, hb⟩ := hrel
  have A1 := Blk.below hb zaw1 Kaw1.out
  have a1 : wr.cell? ⟨w.heap.size, 1, none⟩ = some (.int .i64 r.pal.wd) := (A1 1 (by simp)).1
  have a2 : wr.cell? ⟨w.heap.size, 2, none⟩ = some (.int .i64 r.pal.dp) := (A1 2 (by simp)).1
  have a3 : wr.cell? ⟨w.heap.size, 3, none⟩ = some (.int .i64 r.pal.ht) := (A1 3 (by simp)).1
  have a4 : wr.cell? ⟨w.heap.size, 4, none⟩ = some (.int .i64 r.pal.gram) := (A1 4 (by simp)).1
  have z0 : w.heap.size < wr.heap.size := Nat.lt_of_lt_of_le zaw1 hb.size
  have HBB := hide hb
  by_cases hlt : k < r.types.length
  · obtain ⟨b, off, rfl, hc⟩ := HT.out.2 k hlt
    have HST := hide (all_step (standsB r.pal) r.types k hlt hall)
    have HFE := hide (all_fell (standsB r.pal) r.types k hlt)
    have hq := HN.out (r.types.getD k default) (mem_getD r.types k hlt)
    generalize r.types.getD k default = q at hc HST HFE hq
    have HQ := hide hq
    clear hq
    have d0 : wr.cell? ⟨b, off + k * 7, none⟩ = some (.int .i64 q.id) := (hb.cell (World.block_lt_of_cell? _ _ (hc 0 (by omega)))).trans (hc 0 (by omega))
    have d1 : wr.cell? ⟨b, off + k * 7 + 1, none⟩ = some (.int .i64 q.wd) := (hb.cell (World.block_lt_of_cell? _ _ (hc 1 (by omega)))).trans (hc 1 (by omega))
    have d2 : wr.cell? ⟨b, off + k * 7 + 2, none⟩ = some (.int .i64 q.ht) := (hb.cell (World.block_lt_of_cell? _ _ (hc 2 (by omega)))).trans (hc 2 (by omega))
    have d3 : wr.cell? ⟨b, off + k * 7 + 3, none⟩ = some (.int .i64 q.dp) := (hb.cell (World.block_lt_of_cell? _ _ (hc 3 (by omega)))).trans (hc 3 (by omega))
    have d4 : wr.cell? ⟨b, off + k * 7 + 4, none⟩ = some (.int .i64 q.tare) := (hb.cell (World.block_lt_of_cell? _ _ (hc 4 (by omega)))).trans (hc 4 (by omega))
    have d5 : wr.cell? ⟨b, off + k * 7 + 5, none⟩ = some (.int .i64 q.gram) := (hb.cell (World.block_lt_of_cell? _ _ (hc 5 (by omega)))).trans (hc 5 (by omega))
    have d6 : wr.cell? ⟨b, off + k * 7 + 6, none⟩ = some (.int .i64 q.cost) := (hb.cell (World.block_lt_of_cell? _ _ (hc 6 (by omega)))).trans (hc 6 (by omega))
    clear hc hb hall A1
    go_wp2_with fail
    refine (standsOn_any r.pal q _ HQ.out.1 HQ.out.2.1 HQ.out.2.2.1 HQ.out.2.2.2).mono ?_
    rintro e w9 ⟨rfl, hb9⟩
    have H9 := hide (bw_call (bw_alloc HBB.out _) hb9)
    clear hb9
    cases hf : standsB r.pal q
    · have HF := hide (HFE.out hf)
      go_wp2
      go_ret
      refine ⟨ret_bool ?_, Hw1.out.trans (H9.out.mono Hw1.out.size)⟩
      rw [unhide HUN, unhide HF]
    · have HF := hide (HST.out hf)
      go_wp2
      go_roundw
      case rel => exact ⟨k + 1, by omega, by go_num, unhide HF, unhide H9⟩
      case measure => simp [intOf]; omega
  · have HIA := hide (all_whole (standsB r.pal) r.types k (by omega) hall)
    go_wp2
    go_ret
    refine ⟨ret_bool ?_, Hw1.out.trans (hb.mono Hw1.out.size)⟩
    rw [unhide HUN, unhide HIA]
theorem names_no {r : ReqV} (h : masterB r = false ∨ onceB (idsT r.types) = false ∨ onceB (idsI r.items) = false) : namesB r = false := by
 rcases h with h | h | h <;> simp [namesB, h]
theorem names_eq {r : ReqV} (h0 : masterB r = true) (h1 : onceB (idsT r.types) = true) (h2 : onceB (idsI r.items) = true) : namesB r = kindsB r := by simp [namesB, h0, h1, h2]
set_option maxHeartbeats 2000000 in
theorem namesOk_any (r : ReqV) (h : ReqH) (w : World) (hr : RdReq w r h) (hs : r.small) :
 Calls Tryz.prog 87 #[reqVal r h] w fun e w' => e = .returned (.bool (namesB r)) ∧ Below w.heap.size w w' := by
 have htl : r.types.length ≤ 1048600 := by unfold ReqV.small at hs; omega
 have hil : r.items.length ≤ 1048600 := by unfold ReqV.small at hs; omega
 unfold reqVal
 go_enter Tryz.func87, Tryz.ntmps87
 go_wp2_with fail
 generalize hW : (w.alloc (.cells #[.int .i64 r.way, .int .i64 r.pal.wd, .int .i64 r.pal.dp, .int .i64 r.pal.ht, .int .i64 r.pal.gram, .int .i64 r.classes, .slice h.ap r.pairs.length h.cp, .slice h.at' r.types.length h.ct, .int .i64 r.master, .slice h.ai r.items.length h.ci] 41)) = w1 at *
 obtain ⟨hb, Kaw1, zaw1⟩ := en1 hW
 have hb := unhide hb
 have Hw1 : Hid (Below w.heap.size w w1) := hb
 clear hb hW
 have Qrw1 : Hid (RdReq w1 r h) := hr.mono Hw1.out
 obtain ⟨aw1_0, aw1_1, aw1_2, aw1_3, aw1_4, aw1_5, aw1_6, aw1_7, aw1_8, aw1_9⟩ := Blk.cs10 Kaw1.out
 refine (masterOf_any r h _ Qrw1.out htl).mono ?_
 rintro e w2 ⟨rfl, hbw2⟩
 clear aw1_0 aw1_1 aw1_2 aw1_3 aw1_4 aw1_5 aw1_6 aw1_7 aw1_8 aw1_9
 have Hw2 : Hid (Below w.heap.size w w2) := Hw1.out.trans (hbw2.mono Hw1.out.size)
 have Kaw2 := hide (Blk.below hbw2 zaw1 Kaw1.out)
 have zaw2 : w.heap.size < w2.heap.size := Nat.lt_of_lt_of_le zaw1 hbw2.size
 have Qrw2 : Hid (RdReq w2 r h) := Qrw1.out.mono hbw2
 clear Hw1 Kaw1 zaw1 Qrw1
 clear hbw2
 cases hm : masterB r
 · have aw2_0 : w2.cell? ⟨w.heap.size, 0, none⟩ = some (.int .i64 r.way) := (Kaw2.out 0 (by simp)).1
   have aw2_1 : w2.cell? ⟨w.heap.size, 1, none⟩ = some (.int .i64 r.pal.wd) := (Kaw2.out 1 (by simp)).1
   have aw2_2 : w2.cell? ⟨w.heap.size, 2, none⟩ = some (.int .i64 r.pal.dp) := (Kaw2.out 2 (by simp)).1
   have aw2_3 : w2.cell? ⟨w.heap.size, 3, none⟩ = some (.int .i64 r.pal.ht) := (Kaw2.out 3 (by simp)).1
   have aw2_4 : w2.cell? ⟨w.heap.size, 4, none⟩ = some (.int .i64 r.pal.gram) := (Kaw2.out 4 (by simp)).1
   have aw2_5 : w2.cell? ⟨w.heap.size, 5, none⟩ = some (.int .i64 r.classes) := (Kaw2.out 5 (by simp)).1
   have aw2_6 : w2.cell? ⟨w.heap.size, 6, none⟩ = some (.slice h.ap r.pairs.length h.cp) := (Kaw2.out 6 (by simp)).1
   have aw2_7 : w2.cell? ⟨w.heap.size, 7, none⟩ = some (.slice h.at' r.types.length h.ct) := (Kaw2.out 7 (by simp)).1
   have aw2_8 : w2.cell? ⟨w.heap.size, 8, none⟩ = some (.int .i64 r.master) := (Kaw2.out 8 (by simp)).1
   have aw2_9 : w2.cell? ⟨w.heap.size, 9, none⟩ = some (.slice h.ai r.items.length h.ci) := (Kaw2.out 9 (by simp)).1
   go_wp2
   go_ret
   refine ⟨ret_bool (names_no (Or.inl hm)).symm, ?_⟩
   exact (by first | exact unhide Hw2 | exact Hw2.out.alloc Hw2.out.size _)
 have HM := hide hm
 clear hm
 obtain ⟨aw2_0, aw2_1, aw2_2, aw2_3, aw2_4, aw2_5, aw2_6, aw2_7, aw2_8, aw2_9⟩ := Blk.cs10 Kaw2.out
 go_wp2_with fail
 clear aw2_0 aw2_1 aw2_2 aw2_3 aw2_4 aw2_5 aw2_6 aw2_7 aw2_8 aw2_9
 generalize hW : (w2.alloc (.cells #[.int .i64 (masterV r).id, .int .i64 (masterV r).wd, .int .i64 (masterV r).ht, .int .i64 (masterV r).dp, .int .i64 (masterV r).tare, .int .i64 (masterV r).gram, .int .i64 (masterV r).cost] 54)) = w3 at *
 obtain ⟨hb, Ktw3, ztw3⟩ := en1 hW
 have hb := unhide hb
 have Hw3 : Hid (Below w.heap.size w w3) := Hw2.out.trans (hb.mono Hw2.out.size)
 have Kaw3 := hide (Blk.below hb zaw2 Kaw2.out)
 have zaw3 : w.heap.size < w3.heap.size := Nat.lt_of_lt_of_le zaw2 hb.size
 have Qrw3 : Hid (RdReq w3 r h) := Qrw2.out.mono hb
 clear Hw2 Kaw2 zaw2 Qrw2
 clear hb hW
 clear Ktw3 ztw3
 refine (typeIds_any _ _ _ r.types _ Qrw3.out.2.1 htl).mono ?_
 rintro e w4 ⟨g1, c1, rfl, ho1, hbw4⟩
 have hcap1 := own_cap ho1
 have HR1 := hide (Rd.of_owns ho1)
 clear ho1
 have Hw4 : Hid (Below w.heap.size w w4) := Hw3.out.trans (hbw4.mono Hw3.out.size)
 have Kaw4 := hide (Blk.below hbw4 zaw3 Kaw3.out)
 have zaw4 : w.heap.size < w4.heap.size := Nat.lt_of_lt_of_le zaw3 hbw4.size
 have Qrw4 : Hid (RdReq w4 r h) := Qrw3.out.mono hbw4
 clear Hw3 Kaw3 zaw3 Qrw3
 clear hbw4
 go_wp2_with fail
 refine (eachOnce_any g1 _ c1 (idsT r.types) _ HR1.out htl hcap1.1 hcap1.2).mono ?_
 rintro e w' ⟨rfl, hw⟩
 subst w'
 cases hm1 : onceB (idsT r.types)
 · have aw4_0 : w4.cell? ⟨w.heap.size, 0, none⟩ = some (.int .i64 r.way) := (Kaw4.out 0 (by simp)).1
   have aw4_1 : w4.cell? ⟨w.heap.size, 1, none⟩ = some (.int .i64 r.pal.wd) := (Kaw4.out 1 (by simp)).1
   have aw4_2 : w4.cell? ⟨w.heap.size, 2, none⟩ = some (.int .i64 r.pal.dp) := (Kaw4.out 2 (by simp)).1
   have aw4_3 : w4.cell? ⟨w.heap.size, 3, none⟩ = some (.int .i64 r.pal.ht) := (Kaw4.out 3 (by simp)).1
   have aw4_4 : w4.cell? ⟨w.heap.size, 4, none⟩ = some (.int .i64 r.pal.gram) := (Kaw4.out 4 (by simp)).1
   have aw4_5 : w4.cell? ⟨w.heap.size, 5, none⟩ = some (.int .i64 r.classes) := (Kaw4.out 5 (by simp)).1
   have aw4_6 : w4.cell? ⟨w.heap.size, 6, none⟩ = some (.slice h.ap r.pairs.length h.cp) := (Kaw4.out 6 (by simp)).1
   have aw4_7 : w4.cell? ⟨w.heap.size, 7, none⟩ = some (.slice h.at' r.types.length h.ct) := (Kaw4.out 7 (by simp)).1
   have aw4_8 : w4.cell? ⟨w.heap.size, 8, none⟩ = some (.int .i64 r.master) := (Kaw4.out 8 (by simp)).1
   have aw4_9 : w4.cell? ⟨w.heap.size, 9, none⟩ = some (.slice h.ai r.items.length h.ci) := (Kaw4.out 9 (by simp)).1
   go_wp2
   go_ret
   refine ⟨ret_bool (names_no (Or.inr (Or.inl hm1))).symm, ?_⟩
   exact (by first | exact unhide Hw4 | exact Hw4.out.alloc Hw4.out.size _)
 have HM1 := hide hm1
 clear hm1 HR1 hcap1
 obtain ⟨aw4_0, aw4_1, aw4_2, aw4_3, aw4_4, aw4_5, aw4_6, aw4_7, aw4_8, aw4_9⟩ := Blk.cs10 Kaw4.out
 go_wp2_with fail
 refine (itemIds_any _ _ _ r.items _ Qrw4.out.2.2 hil).mono ?_
 rintro e w5 ⟨g2, c2, rfl, ho2, hbw5⟩
 clear aw4_0 aw4_1 aw4_2 aw4_3 aw4_4 aw4_5 aw4_6 aw4_7 aw4_8 aw4_9
 have hcap2 := own_cap ho2
 have HR2 := hide (Rd.of_owns ho2)
 clear ho2
 have Hw5 : Hid (Below w.heap.size w w5) := Hw4.out.trans (hbw5.mono Hw4.out.size)
 have Kaw5 := hide (Blk.below hbw5 zaw4 Kaw4.out)
 have zaw5 : w.heap.size < w5.heap.size := Nat.lt_of_lt_of_le zaw4 hbw5.size
 have Qrw5 : Hid (RdReq w5 r h) := Qrw4.out.mono hbw5
 clear Hw4 Kaw4 zaw4 Qrw4
 clear hbw5
 go_wp2_with fail
 refine (eachOnce_any g2 _ c2 (idsI r.items) _ HR2.out hil hcap2.1 hcap2.2).mono ?_
 rintro e w' ⟨rfl, hw⟩
 subst w'
 cases hm2 : onceB (idsI r.items)
 · have aw5_0 : w5.cell? ⟨w.heap.size, 0, none⟩ = some (.int .i64 r.way) := (Kaw5.out 0 (by simp)).1
   have aw5_1 : w5.cell? ⟨w.heap.size, 1, none⟩ = some (.int .i64 r.pal.wd) := (Kaw5.out 1 (by simp)).1
   have aw5_2 : w5.cell? ⟨w.heap.size, 2, none⟩ = some (.int .i64 r.pal.dp) := (Kaw5.out 2 (by simp)).1
   have aw5_3 : w5.cell? ⟨w.heap.size, 3, none⟩ = some (.int .i64 r.pal.ht) := (Kaw5.out 3 (by simp)).1
   have aw5_4 : w5.cell? ⟨w.heap.size, 4, none⟩ = some (.int .i64 r.pal.gram) := (Kaw5.out 4 (by simp)).1
   have aw5_5 : w5.cell? ⟨w.heap.size, 5, none⟩ = some (.int .i64 r.classes) := (Kaw5.out 5 (by simp)).1
   have aw5_6 : w5.cell? ⟨w.heap.size, 6, none⟩ = some (.slice h.ap r.pairs.length h.cp) := (Kaw5.out 6 (by simp)).1
   have aw5_7 : w5.cell? ⟨w.heap.size, 7, none⟩ = some (.slice h.at' r.types.length h.ct) := (Kaw5.out 7 (by simp)).1
   have aw5_8 : w5.cell? ⟨w.heap.size, 8, none⟩ = some (.int .i64 r.master) := (Kaw5.out 8 (by simp)).1
   have aw5_9 : w5.cell? ⟨w.heap.size, 9, none⟩ = some (.slice h.ai r.items.length h.ci) := (Kaw5.out 9 (by simp)).1
   go_wp2
   go_ret
   refine ⟨ret_bool (names_no (Or.inr (Or.inr hm2))).symm, ?_⟩
   exact (by first | exact unhide Hw5 | exact Hw5.out.alloc Hw5.out.size _)
 have HM2 := hide hm2
 clear hm2 HR2 hcap2
 obtain ⟨aw5_0, aw5_1, aw5_2, aw5_3, aw5_4, aw5_5, aw5_6, aw5_7, aw5_8, aw5_9⟩ := Blk.cs10 Kaw5.out
 go_wp2_with fail
 refine (kindsOk_any r h _ Qrw5.out hs).mono ?_
 rintro e w6 ⟨rfl, hbw6⟩
 clear aw5_0 aw5_1 aw5_2 aw5_3 aw5_4 aw5_5 aw5_6 aw5_7 aw5_8 aw5_9
 have Hw6 : Hid (Below w.heap.size w w6) := Hw5.out.trans (hbw6.mono Hw5.out.size)
 have Kaw6 := hide (Blk.below hbw6 zaw5 Kaw5.out)
 have zaw6 : w.heap.size < w6.heap.size := Nat.lt_of_lt_of_le zaw5 hbw6.size
 have Qrw6 : Hid (RdReq w6 r h) := Qrw5.out.mono hbw6
 clear Hw5 Kaw5 zaw5 Qrw5
 clear hbw6
 go_wp2
 go_ret
 exact ⟨ret_bool (names_eq HM.out HM1.out HM2.out).symm, unhide Hw6⟩
/-- No fault, or the fault of that class. -/
def faultVal (r : ReqV) : Value := if classI r = 0 then .nilIface else .iface 126 (.agg #[.int .i64 (classI r)])
theorem ret_fault {r : ReqV} {c : Int} (h : classI r = c) (h0 : c ≠ 0 := by decide) : Ending.returned (.iface 126 (.agg #[.int .i64 c])) = .returned (faultVal r) := by
 unfold faultVal; rw [h, if_neg h0]
theorem ret_nofault {r : ReqV} (h : classI r = 0) : Ending.returned .nilIface = .returned (faultVal r) := by
 unfold faultVal; rw [if_pos h]
set_option maxHeartbeats 2000000 in
theorem faultOf_any (r : ReqV) (h : ReqH) (w : World) (hr : RdReq w r h) (hs : r.small) :
 Calls Tryz.prog 58 #[reqVal r h] w fun e w' => e = .returned (faultVal r) ∧ Below w.heap.size w w' := by
 have hpl : r.pairs.length ≤ 1048600 := by unfold ReqV.small at hs; omega
 unfold reqVal
 go_enter Tryz.func58, Tryz.ntmps58
 go_wp2_with fail
 generalize hW : (w.alloc (.cells #[.int .i64 r.way, .int .i64 r.pal.wd, .int .i64 r.pal.dp, .int .i64 r.pal.ht, .int .i64 r.pal.gram, .int .i64 r.classes, .slice h.ap r.pairs.length h.cp, .slice h.at' r.types.length h.ct, .int .i64 r.master, .slice h.ai r.items.length h.ci] 41)) = w1 at *
 obtain ⟨hb, Kaw1, zaw1⟩ := en1 hW
 have hb := unhide hb
 have Hw1 : Hid (Below w.heap.size w w1) := hb
 clear hb hW
 have Qrw1 : Hid (RdReq w1 r h) := hr.mono Hw1.out
 obtain ⟨aw1_0, aw1_1, aw1_2, aw1_3, aw1_4, aw1_5, aw1_6, aw1_7, aw1_8, aw1_9⟩ := Blk.cs10 Kaw1.out
 refine (boundsOk_any r h _ Qrw1.out hs).mono ?_
 rintro e w2 ⟨rfl, hbw2⟩
 clear aw1_0 aw1_1 aw1_2 aw1_3 aw1_4 aw1_5 aw1_6 aw1_7 aw1_8 aw1_9
 have Hw2 : Hid (Below w.heap.size w w2) := Hw1.out.trans (hbw2.mono Hw1.out.size)
 have Kaw2 := hide (Blk.below hbw2 zaw1 Kaw1.out)
 have zaw2 : w.heap.size < w2.heap.size := Nat.lt_of_lt_of_le zaw1 hbw2.size
 have Qrw2 : Hid (RdReq w2 r h) := Qrw1.out.mono hbw2
 clear Hw1 Kaw1 zaw1 Qrw1
 clear hbw2
 cases x1 : boundsB r
 · go_wp2
   go_ret
   exact ⟨ret_fault (class_bounds x1), unhide Hw2⟩
 have Hx1 := hide x1
 clear x1
 obtain ⟨aw2_0, aw2_1, aw2_2, aw2_3, aw2_4, aw2_5, aw2_6, aw2_7, aw2_8, aw2_9⟩ := Blk.cs10 Kaw2.out
 go_wp2_with fail
 refine (namesOk_any r h _ Qrw2.out hs).mono ?_
 rintro e w3 ⟨rfl, hbw3⟩
 clear aw2_0 aw2_1 aw2_2 aw2_3 aw2_4 aw2_5 aw2_6 aw2_7 aw2_8 aw2_9
 have Hw3 : Hid (Below w.heap.size w w3) := Hw2.out.trans (hbw3.mono Hw2.out.size)
 have Kaw3 := hide (Blk.below hbw3 zaw2 Kaw2.out)
 have zaw3 : w.heap.size < w3.heap.size := Nat.lt_of_lt_of_le zaw2 hbw3.size
 have Qrw3 : Hid (RdReq w3 r h) := Qrw2.out.mono hbw3
 clear Hw2 Kaw2 zaw2 Qrw2
 clear hbw3
 cases x2 : namesB r
 · go_wp2
   go_ret
   exact ⟨ret_fault (class_names Hx1.out x2), unhide Hw3⟩
 have Hx2 := hide x2
 clear x2
 obtain ⟨aw3_0, aw3_1, aw3_2, aw3_3, aw3_4, aw3_5, aw3_6, aw3_7, aw3_8, aw3_9⟩ := Blk.cs10 Kaw3.out
 go_wp2_with fail
 refine (tableOk_any _ _ _ r.pairs r.classes _ Qrw3.out.1 hpl).mono ?_
 rintro e w4 ⟨rfl, hbw4⟩
 clear aw3_0 aw3_1 aw3_2 aw3_3 aw3_4 aw3_5 aw3_6 aw3_7 aw3_8 aw3_9
 have Hw4 : Hid (Below w.heap.size w w4) := Hw3.out.trans (hbw4.mono Hw3.out.size)
 have Kaw4 := hide (Blk.below hbw4 zaw3 Kaw3.out)
 have zaw4 : w.heap.size < w4.heap.size := Nat.lt_of_lt_of_le zaw3 hbw4.size
 have Qrw4 : Hid (RdReq w4 r h) := Qrw3.out.mono hbw4
 clear Hw3 Kaw3 zaw3 Qrw3
 clear hbw4
 cases x3 : tableB r.pairs r.classes
 · go_wp2
   go_ret
   exact ⟨ret_fault (class_table Hx1.out Hx2.out x3), unhide Hw4⟩
 have Hx3 := hide x3
 clear x3
 obtain ⟨aw4_0, aw4_1, aw4_2, aw4_3, aw4_4, aw4_5, aw4_6, aw4_7, aw4_8, aw4_9⟩ := Blk.cs10 Kaw4.out
 go_wp2_with fail
 refine (unitsOk_any r h _ Qrw4.out hs).mono ?_
 rintro e w5 ⟨rfl, hbw5⟩
 clear aw4_0 aw4_1 aw4_2 aw4_3 aw4_4 aw4_5 aw4_6 aw4_7 aw4_8 aw4_9
 have Hw5 : Hid (Below w.heap.size w w5) := Hw4.out.trans (hbw5.mono Hw4.out.size)
 have Kaw5 := hide (Blk.below hbw5 zaw4 Kaw4.out)
 have zaw5 : w.heap.size < w5.heap.size := Nat.lt_of_lt_of_le zaw4 hbw5.size
 have Qrw5 : Hid (RdReq w5 r h) := Qrw4.out.mono hbw5
 clear Hw4 Kaw4 zaw4 Qrw4
 clear hbw5
 cases x4 : unitsB r
 · go_wp2
   go_ret
   exact ⟨ret_fault (class_units Hx1.out Hx2.out Hx3.out x4), unhide Hw5⟩
 have Hx4 := hide x4
 clear x4
 obtain ⟨aw5_0, aw5_1, aw5_2, aw5_3, aw5_4, aw5_5, aw5_6, aw5_7, aw5_8, aw5_9⟩ := Blk.cs10 Kaw5.out
 go_wp2_with fail
 refine (loadsOk_any r h _ Qrw5.out hs Hx1.out).mono ?_
 rintro e w6 ⟨rfl, hbw6⟩
 clear aw5_0 aw5_1 aw5_2 aw5_3 aw5_4 aw5_5 aw5_6 aw5_7 aw5_8 aw5_9
 have Hw6 : Hid (Below w.heap.size w w6) := Hw5.out.trans (hbw6.mono Hw5.out.size)
 have Kaw6 := hide (Blk.below hbw6 zaw5 Kaw5.out)
 have zaw6 : w.heap.size < w6.heap.size := Nat.lt_of_lt_of_le zaw5 hbw6.size
 have Qrw6 : Hid (RdReq w6 r h) := Qrw5.out.mono hbw6
 clear Hw5 Kaw5 zaw5 Qrw5
 clear hbw6
 cases x5 : loadsB r
 · go_wp2
   go_ret
   exact ⟨ret_fault (class_loads Hx1.out Hx2.out Hx3.out Hx4.out x5), unhide Hw6⟩
 have Hx5 := hide x5
 clear x5
 obtain ⟨aw6_0, aw6_1, aw6_2, aw6_3, aw6_4, aw6_5, aw6_6, aw6_7, aw6_8, aw6_9⟩ := Blk.cs10 Kaw6.out
 go_wp2
 go_ret
 exact ⟨ret_nofault (class_none Hx1.out Hx2.out Hx3.out Hx4.out Hx5.out), unhide Hw6⟩
set_option maxHeartbeats 2000000 in
theorem classOfFault_any (r : ReqV) (w : World) (hg : ErrT w) :
 Calls Tryz.prog 57 #[faultVal r] w fun e w' => e = .returned (.int .i64 (classI r)) ∧ Below w.heap.size w w' := by
 by_cases hc : classI r = 0
 · have e : faultVal r = .nilIface := by unfold faultVal; rw [if_pos hc]
   rw [e, hc]
   go_enter Tryz.func57, Tryz.ntmps57
   go_wp2_with fail
   refine (as_nil _ _).mono ?_
   rintro e w' ⟨rfl, hw⟩
   subst w'
   go_wp2
   go_ret
   exact ⟨rfl, (Below.refl _ _).alloc (Nat.le_refl _) _⟩
 · have e : faultVal r = .iface 126 (.agg #[.int .i64 (classI r)]) := by unfold faultVal; rw [if_neg hc]
   rw [e]
   clear e
   generalize classI r = c at *
   have hb0 : Below w.heap.size w (w.alloc (.cells #[.int .i64 0] 126)) := (Below.refl _ _).alloc (Nat.le_refl _) _
   have hg1 : ErrT (w.alloc (.cells #[.int .i64 0] 126)) := hg.later hb0
   have K0 : Blk (w.alloc (.cells #[.int .i64 0] 126)) w.heap.size [.int .i64 0] := Blk.allocAt [.int .i64 0] rfl
   have z0 : w.heap.size < (w.alloc (.cells #[.int .i64 0] 126)).heap.size := by simp
   go_enter Tryz.func57, Tryz.ntmps57
   go_wp2_with fail
   generalize w.alloc (.cells #[.int .i64 0] 126) = W at *
   refine (as_hit c w.heap.size (.int .i64 0) W hg1 (K0 0 (by simp)).1 (K0 0 (by simp)).2).mono ?_
   rintro e w' ⟨rfl, hw⟩
   have hsz := hb0.size
   have K1 : Blk w' w.heap.size [.int .i64 c] := by
    rw [hw]
    exact (((((K0.allocOld z0 _).allocOld (by simp; omega) _).allocOld (by simp; omega) _).allocOld (by simp; omega) _)).set (j := 0) (v := .int .i64 c) (by simp)
   have hb1 : Below w.heap.size w w' := by
    rw [hw]
    exact ((((hb0.alloc hsz _).alloc (by simp; omega) _).alloc (by simp; omega) _).alloc (by simp; omega) _).setCell (Nat.le_refl _) _
   have c0 : w'.cell? ⟨w.heap.size, 0, none⟩ = some (.int .i64 c) := (K1 0 (by simp)).1
   have HB := hide hb1
   clear hw K0 K1 hb1 hb0 hg hg1
   go_wp2
   go_ret
   exact ⟨rfl, unhide HB⟩
set_option maxHeartbeats 2000000 in
theorem class_any (r : ReqV) (h : ReqH) (w : World) (hr : RdReq w r h) (hs : r.small) (hg : ErrT w) :
 Calls Tryz.prog 33 #[reqVal r h] w fun e w' => e = .returned (.int .i64 (classI r)) ∧ Below w.heap.size w w' := by
 unfold reqVal
 go_enter Tryz.func33, Tryz.ntmps33
 go_wp2_with fail
 generalize hW : (w.alloc (.cells #[.int .i64 r.way, .int .i64 r.pal.wd, .int .i64 r.pal.dp, .int .i64 r.pal.ht, .int .i64 r.pal.gram, .int .i64 r.classes, .slice h.ap r.pairs.length h.cp, .slice h.at' r.types.length h.ct, .int .i64 r.master, .slice h.ai r.items.length h.ci] 41)) = w1 at *
 obtain ⟨hb, Kaw1, zaw1⟩ := en1 hW
 have hb := unhide hb
 have Hw1 : Hid (Below w.heap.size w w1) := hb
 clear hb hW
 have Qrw1 : Hid (RdReq w1 r h) := hr.mono Hw1.out
 have Qgw1 : Hid (ErrT w1) := hg.later Hw1.out
 obtain ⟨aw1_0, aw1_1, aw1_2, aw1_3, aw1_4, aw1_5, aw1_6, aw1_7, aw1_8, aw1_9⟩ := Blk.cs10 Kaw1.out
 refine (faultOf_any r h _ Qrw1.out hs).mono ?_
 rintro e w2 ⟨rfl, hbw2⟩
 clear aw1_0 aw1_1 aw1_2 aw1_3 aw1_4 aw1_5 aw1_6 aw1_7 aw1_8 aw1_9
 have Hw2 : Hid (Below w.heap.size w w2) := Hw1.out.trans (hbw2.mono Hw1.out.size)
 have Kaw2 := hide (Blk.below hbw2 zaw1 Kaw1.out)
 have zaw2 : w.heap.size < w2.heap.size := Nat.lt_of_lt_of_le zaw1 hbw2.size
 have Qrw2 : Hid (RdReq w2 r h) := Qrw1.out.mono hbw2
 have Qgw2 : Hid (ErrT w2) := Qgw1.out.later hbw2
 clear Hw1 Kaw1 zaw1 Qrw1 Qgw1
 clear hbw2
 go_wp2_with fail
 refine (classOfFault_any r _ Qgw2.out).mono ?_
 rintro e w3 ⟨rfl, hbw3⟩
 have Hw3 : Hid (Below w.heap.size w w3) := Hw2.out.trans (hbw3.mono Hw2.out.size)
 have Kaw3 := hide (Blk.below hbw3 zaw2 Kaw2.out)
 have zaw3 : w.heap.size < w3.heap.size := Nat.lt_of_lt_of_le zaw2 hbw3.size
 have Qrw3 : Hid (RdReq w3 r h) := Qrw2.out.mono hbw3
 have Qgw3 : Hid (ErrT w3) := Qgw2.out.later hbw3
 clear Hw2 Kaw2 zaw2 Qrw2 Qgw2
 clear hbw3
 go_wp2
 go_ret
 exact ⟨rfl, unhide Hw3⟩
end Go.Proofs.YtcblpoeeembniabGreatDoor

/- From the row's list to the library's variable that errors.As reads; a call that starts no goroutine, in a row that lets others leave; the card of such a row. -/
namespace Go.Proofs.YtcblpoeeembniabGreatDoor
open Go.ChangeShapes Go.WideShapes Go.ChangeAt Go.RowKit
set_option linter.unusedVariables false

theorem gErrT : Tryz.prog.globalNamed "errors.errorType" = some 0 := by kernel_rfl
theorem rtErrT : (Tryz.prog.cutTypes.find? (·.1 == "internal/reflectlite.rtype")).map (·.2) = some 176 := by kernel_rfl
theorem oneErrT : ((List.range 245).filter fun t => Tryz.prog.rowNamed t [101, 114, 114, 111, 114]) = [101] := by kernel_rfl
theorem sizeErrT : Tryz.prog.types.size = 245 := by kernel_rfl
theorem errT_of_handles {W : World} {L : List (String × DataW Unit)} (h : handlesMet Tryz.prog L W) (hm : ("errors.errorType", Rows.laid_errors_errorType) ∈ L) : ErrT W := by
 obtain ⟨name, u, ty, e1, e2, e3, e4, e5⟩ := h _ hm
 have en : name = [101, 114, 114, 111, 114] := (Option.some.inj e1).symm
 subst en
 obtain rfl := Option.some.inj (rtErrT.symm.trans e2)
 have hm : ty ∈ (List.range 245).filter fun t => Tryz.prog.rowNamed t [101, 114, 114, 111, 114] := List.mem_filter.2 ⟨List.mem_range.2 (by rw [← sizeErrT]; exact e3), e4⟩
 rw [oneErrT] at hm
 obtain rfl := List.mem_singleton.1 hm
 have hh : typeHandle Tryz.prog 101 = .pointer (some ⟨1, 101, none⟩) := by kernel_rfl
 rw [hh] at e5
 unfold ErrT
 simpa using World.var?_cell gErrT e5 0

/-- A call that was alone at its return was only left. -/
theorem leaving_of_handed {a : Assume} {C : Checked} {os : Os} {f : FuncId} {r : Reach} {Pre : World → Array Value → Prop} {Post : World → Array Value → Value → World → Prop}
 (h : ReturnsInHanded a C os f r Pre Post) : ReturnsInLeavingWide a C os f r Pre Post := fun enter => by
 obtain ⟨h1, h2, h3, h4, h5⟩ := h enter
 refine ⟨h1, h2, h3, h4, fun w tape i hf => ?_⟩
 obtain ⟨n, v, w', q1, q2, q3, q4, ⟨j, last, q5, q6, q7⟩, q8⟩ := h5 w tape i hf
 refine ⟨n, v, w', q1, q2, q3, q4, ⟨j, last, q5, q6, q7.2.1, ⟨fun g hg => ?_, q7.1.2⟩, q7.2.2⟩, q8⟩
 have := List.all_eq_true.1 q7.1.1 g hg
 exact ⟨0, show g.status = .finished by simpa using this⟩

theorem holds_tied_goes_at (Lk : Looks) {p : Pinned} {s : OpenSpec} {c : OpenClaim} (al : List (List PathCond)) (kinds : List LaidKind) (tests : Bool) (har : Bool × String) (lk g : Bool)
 (hc : c.holds p s) (hal : ∀ D ∈ al, (c.withDomain D).holds p s) (hw : c.wfByText s = true) (hwal : ∀ D ∈ al, (c.withDomain D).wfByText s = true)
 (htie : c.laidByTextAt Lk p kinds tests)
 (hst : c.start = .entering) (hnb : c.noBlocks = false ∧ c.again = false) (hm : p.checked.prog.mainIs = some (har.1, har.2.toList)) (hn : (!har.1 && har.2.isEmpty && !lk) = false)
 (hl : ∀ f fn, p.checked.prog.funcNamed c.func = some f → p.checked.prog.funcs[f]? = some fn → lk = p.checked.prog.looks [] ∧ ∀ (j : Nat) t, fn.params[j]? = some t → p.checked.prog.wantsStandIn t = false)
 (hg : g = c.goesBy p.checked.prog) :
 Claim7.holds p (.plain s) { stood := { row := c, standIns := [], harness := har, looks := lk }, kinds := [], alts := al, goes := g, laidByText := true, laidKinds := kinds, laidTests := tests, laidLooks := Lk } := by
 have h6 : ∀ r : OpenClaim, Claim7.isSixth { stood := { row := r, standIns := [], harness := har, looks := lk }, kinds := [] } = false := fun r => by simpa [Claim7.isSixth] using hn
 refine ⟨Claim7.tied_new_at Lk kinds tests (Claim7.new_of_sixth hc har lk hst hnb hm (h6 c) hl) hw, fun D hD => ?_, htie, (fun h => by cases h), hg⟩
 exact Claim7.tied_new_at Lk kinds tests (Claim7.new_of_sixth (hal D hD) har lk hst hnb hm (h6 _) hl) (hwal D hD)
end Go.Proofs.YtcblpoeeembniabGreatDoor
