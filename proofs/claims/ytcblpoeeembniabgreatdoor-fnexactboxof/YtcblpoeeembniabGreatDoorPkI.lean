/- Table, Beside, TablePlain, TableOk, TableOf, TableEnd: one text. -/
import Derived.Test.YtcblpoeeembniabGreatDoorPkA
import Derived.Laws.StructEq
import Derived.Deep.RegionWith
import Derived.Deep.DeepMust
import Derived.Deep.DeepCutAuto
import Derived.Test.YtcblpoeeembniabGreatDoorPkC
import Derived.Laws.Rows
/- What may lie beside what, in plain words: pairs, tables, groups. -/
namespace Go.Proofs.YtcblpoeeembniabGreatDoor
open Go.RowKit
set_option linter.unusedVariables false

theorem take_any_step {α : Type} [Inhabited α] (xs : List α) (f : α → Bool) (k : Nat) (h : k < xs.length) : (xs.take (k + 1)).any f = ((xs.take k).any f || f (xs.getD k default)) := by
 rw [List.take_succ_eq_append_getElem h, List.any_append]
 simp [h]
theorem any_hit {α : Type} [Inhabited α] (xs : List α) (f : α → Bool) (k : Nat) (h : k < xs.length) (hf : f (xs.getD k default) = true) : xs.any f = true := by
 rw [List.any_eq_true]
 exact ⟨xs[k], List.getElem_mem h, by simpa [h] using hf⟩
theorem take_any_end {α : Type} (xs : List α) (f : α → Bool) (k : Nat) (h : xs.length ≤ k) (hf : (xs.take k).any f = false) : xs.any f = false := by
 rwa [List.take_of_length_le h] at hf
theorem take_all_step {α : Type} [Inhabited α] (xs : List α) (f : α → Bool) (k : Nat) (h : k < xs.length) : (xs.take (k + 1)).all f = ((xs.take k).all f && f (xs.getD k default)) := by
 rw [List.take_succ_eq_append_getElem h, List.all_append]
 simp [h]
theorem all_miss {α : Type} [Inhabited α] (xs : List α) (f : α → Bool) (k : Nat) (h : k < xs.length) (hf : f (xs.getD k default) = false) : xs.all f = false := by
 rw [List.all_eq_false]
 exact ⟨xs[k], List.getElem_mem h, by have := hf; simp [h] at this; simp [this]⟩
theorem take_all_end {α : Type} (xs : List α) (f : α → Bool) (k : Nat) (h : xs.length ≤ k) (hf : (xs.take k).all f = true) : xs.all f = true := by
 rwa [List.take_of_length_le h] at hf
theorem mem_getD {α : Type} [Inhabited α] (xs : List α) (k : Nat) (h : k < xs.length) : xs.getD k default ∈ xs := by
 rw [List.getD_eq_getElem?_getD, List.getElem?_eq_getElem h]
 exact List.getElem_mem _

def PairV.is (x y : Int) (q : PairV) : Bool := (q.a == x) && (q.b == y)
/-- One of the pairs is {x, y}. -/
def besB (ps : List PairV) (x y : Int) : Bool := ps.any (PairV.is x y)
theorem besB_iff (ps : List PairV) (x y : Int) : besB ps x y = true ↔ (⟨x, y⟩ : PairV) ∈ ps := by
 unfold besB PairV.is
 rw [List.any_eq_true]
 constructor
 · rintro ⟨q, hq, h⟩
   simp at h
   obtain ⟨rfl, rfl⟩ := h
   exact hq
 · intro h
   exact ⟨_, h, by simp⟩
/-- A list of numbers has it. -/
def hasI (l : List Int) (x : Int) : Bool := l.any fun y => y == x
theorem hasI_iff (l : List Int) (x : Int) : hasI l x = true ↔ x ∈ l := by
 unfold hasI
 rw [List.any_eq_true]
 constructor
 · rintro ⟨q, hq, h⟩
   simp at h
   subst h
   exact hq
 · intro h
   exact ⟨_, h, by simp⟩
/-- Beside all of a group, and they beside it. -/
def joinsB (ps : List PairV) (g : List Int) (x : Int) : Bool := g.all fun k => besB ps k x && besB ps x k
/-- Into the first group that it joins, else behind all. -/
def addTo (ps : List PairV) (x : Int) : List (List Int) → List (List Int)
 | [] => [[x]]
 | g :: gs => if joinsB ps g x then (g ++ [x]) :: gs else g :: addTo ps x gs
def addIf (ps : List PairV) (pres : List Int) (gs : List (List Int)) (x : Int) : List (List Int) := if hasI pres x then addTo ps x gs else gs
def kinds : List Int := [0, 1, 2, 3]
def groupsL (ps : List PairV) (pres : List Int) : List (List Int) := kinds.foldl (addIf ps pres) []
/-- The place of the first group that has it; -1. -/
def groupOfI (gs : List (List Int)) (x : Int) : Int := if gs.any (hasI · x) then ((gs.takeWhile fun g => ! hasI g x).length : Int) else -1
theorem groupOf_hit (gs : List (List Int)) (x : Int) (k : Nat) (h : k < gs.length) (h0 : (gs.take k).any (hasI · x) = false) (h1 : hasI (gs.getD k default) x = true) : groupOfI gs x = k := by
 unfold groupOfI
 rw [if_pos (any_hit gs (hasI · x) k h h1)]
 have e : gs = gs.take k ++ gs[k] :: gs.drop (k + 1) := by rw [← List.drop_eq_getElem_cons h, List.take_append_drop]
 have h2 : ∀ g ∈ gs.take k, (! hasI g x) = true := by
  intro g hg
  rw [List.any_eq_false] at h0
  have := h0 g hg
  simpa using this
 have h3 : hasI gs[k] x = true := by simpa [h] using h1
 have e2 : (gs.takeWhile fun g => ! hasI g x) = gs.take k := by
  conv => lhs; rw [e]
  rw [List.takeWhile_append_of_pos h2, List.takeWhile_cons_of_neg (by simp [h3])]
  simp
 rw [e2, List.length_take]
 congr 1
 omega
theorem groupOf_none (gs : List (List Int)) (x : Int) (h0 : gs.any (hasI · x) = false) : groupOfI gs x = -1 := by
 unfold groupOfI
 rw [h0]
 rfl
/-- Both ways, and each beside itself. -/
def tableRow (ps : List PairV) (c : Nat) (a : Nat) : Bool := (List.range c).all fun b => ! ((decide (a = b) && ! besB ps a a) || (besB ps a b != besB ps b a))
def tableB (ps : List PairV) (c : Int) : Bool := decide (1 ≤ c) && decide (c ≤ 4) && (List.range c.toNat).all (tableRow ps c.toNat)
def badThree (ps : List PairV) (x y z : Int) : Bool := besB ps x y && besB ps y z && ! besB ps x z
/-- Of any three of the list .. -/
def transB (ps : List PairV) (l : List Int) : Bool := l.all fun x => l.all fun y => l.all fun z => ! badThree ps x y z
def badTwo (am : List PairV) (p q : PairV) : Bool := (p.b == q.a) && ! besB am p.a q.b
def transAm (am : List PairV) : Bool := am.all fun p => am.all fun q => ! badTwo am p q
/-- The pairs among the list, each once. -/
def amStep (l : List Int) (am : List PairV) (p : PairV) : List PairV := if hasI l p.a && hasI l p.b && ! besB am p.a p.b then am ++ [p] else am
def amL (ps : List PairV) (l : List Int) : List PairV := ps.foldl (amStep l) []
theorem amStep_mem (l : List Int) (am : List PairV) (p q : PairV) : q ∈ amStep l am p ↔ q ∈ am ∨ (q = p ∧ p.a ∈ l ∧ p.b ∈ l) := by
 unfold amStep
 by_cases h1 : hasI l p.a = true
 · by_cases h2 : hasI l p.b = true
   · by_cases h3 : besB am p.a p.b = true
     · rw [if_neg (by simp [h1, h2, h3])]
       rw [besB_iff] at h3
       constructor
       · exact Or.inl
       · rintro (h | ⟨rfl, _⟩)
         · exact h
         · exact h3
     · rw [if_pos (by simp [h1, h2, h3])]
       rw [hasI_iff] at h1 h2
       rw [List.mem_append, List.mem_singleton]
       constructor
       · rintro (h | rfl)
         · exact Or.inl h
         · exact Or.inr ⟨rfl, h1, h2⟩
       · rintro (h | ⟨rfl, _⟩)
         · exact Or.inl h
         · exact Or.inr rfl
   · rw [if_neg (by simp [h2])]
     rw [hasI_iff] at h2
     constructor
     · exact Or.inl
     · rintro (h | ⟨rfl, _, h⟩)
       · exact h
       · exact absurd h h2
 · rw [if_neg (by simp [h1])]
   rw [hasI_iff] at h1
   constructor
   · exact Or.inl
   · rintro (h | ⟨rfl, h, _⟩)
     · exact h
     · exact absurd h h1
theorem amFold_mem (l : List Int) (q : PairV) : ∀ (ps am : List PairV), q ∈ ps.foldl (amStep l) am ↔ q ∈ am ∨ (q ∈ ps ∧ q.a ∈ l ∧ q.b ∈ l)
 | [], am => by simp
 | p :: ps, am => by
  rw [List.foldl_cons, amFold_mem l q ps, amStep_mem, List.mem_cons]
  constructor
  · rintro ((h | ⟨rfl, h⟩) | h)
    · exact Or.inl h
    · exact Or.inr ⟨Or.inl rfl, h⟩
    · exact Or.inr ⟨Or.inr h.1, h.2⟩
  · rintro (h | ⟨h | h, h2⟩)
    · exact Or.inl (Or.inl h)
    · subst h; exact Or.inl (Or.inr ⟨rfl, h2⟩)
    · exact Or.inr ⟨h, h2⟩
theorem amL_mem (ps : List PairV) (l : List Int) (q : PairV) : q ∈ amL ps l ↔ q ∈ ps ∧ q.a ∈ l ∧ q.b ∈ l := by
 unfold amL
 rw [amFold_mem]
 simp
theorem trans_am (ps : List PairV) (l : List Int) : transAm (amL ps l) = transB ps l := by
 rw [Bool.eq_iff_iff]
 unfold transAm transB badTwo badThree
 simp only [List.all_eq_true, Bool.not_eq_true', Bool.and_eq_false_iff, beq_eq_false_iff_ne, ne_eq, Bool.not_eq_false']
 constructor
 · intro h x hx y hy z hz
   by_cases h1 : besB ps x y = true
   · by_cases h2 : besB ps y z = true
     · right
       have hp := (amL_mem ps l ⟨x, y⟩).2 ⟨(besB_iff _ _ _).1 h1, hx, hy⟩
       have hq := (amL_mem ps l ⟨y, z⟩).2 ⟨(besB_iff _ _ _).1 h2, hy, hz⟩
       rcases h _ hp _ hq with h3 | h3
       · exact absurd rfl h3
       · exact (besB_iff _ _ _).2 ((amL_mem ps l ⟨x, z⟩).1 ((besB_iff _ _ _).1 h3)).1
     · left; right; simpa using h2
   · left; left; simpa using h1
 · intro h p hp q hq
   by_cases e : p.b = q.a
   · right
     obtain ⟨p1, p2, p3⟩ := (amL_mem ps l p).1 hp
     obtain ⟨q1, q2, q3⟩ := (amL_mem ps l q).1 hq
     rcases h p.a p2 p.b p3 q.b q3 with (h1 | h1) | h1
     · rw [(besB_iff ps p.a p.b).2 p1] at h1; cases h1
     · rw [e, (besB_iff ps q.a q.b).2 q1] at h1; cases h1
     · exact (besB_iff _ _ _).2 ((amL_mem ps l ⟨p.a, q.b⟩).2 ⟨(besB_iff _ _ _).1 h1, p2, q3⟩)
   · left; exact e
end Go.Proofs.YtcblpoeeembniabGreatDoor

/- Whether a list has a thing: of the model and of the program, numbers and pairs. -/
namespace Go.Proofs.YtcblpoeeembniabGreatDoor
open Go.RowKit
set_option linter.unusedVariables false
theorem ret_bool {a b : Bool} (h : a = b) : Ending.returned (.bool a) = .returned (.bool b) := by rw [h]
theorem PairV.is_cases (x y : Int) (q : PairV) : ((q.a == x) = false ∧ PairV.is x y q = false) ∨ ((q.a == x) = true ∧ (q.b == y) = false ∧ PairV.is x y q = false) ∨ ((q.a == x) = true ∧ (q.b == y) = true ∧ PairV.is x y q = true) := by
 unfold PairV.is
 cases (q.a == x) <;> cases (q.b == y) <;> simp
theorem flip_beq (x y : Int) : (x == y) = (y == x) := by rw [Bool.eq_iff_iff, beq_iff_eq, beq_iff_eq]; exact eq_comm

set_option maxHeartbeats 800000 in
theorem specBeside_any (a : Option Addr) (n c : Nat) (ps : List PairV) (x y : Int) (w : World) (hr : RdR PairV.cells 2 w a n ps) (hn : n ≤ 1048600) :
 Calls Tryz.prog 82 #[.slice a n c, .int .i64 x, .int .i64 y] w fun e w' => e = .returned (.bool (besB ps x y)) ∧ w' = w := by
 go_enter Tryz.func82, Tryz.ntmps82
 go_wp2
 go_loop [7] (fun i => ∃ k : Nat, k ≤ n ∧ i = .int .i64 k ∧ (ps.take k).any (PairV.is x y) = false) (fun i => n - (intOf i).toNat)
 case atStart => exact ⟨0, Nat.zero_le _, rfl, rfl⟩
 case round =>
  obtain ⟨k, hk, rfl, h0⟩ := hrel
  have H0 := hide h0
  clear h0
  by_cases hlt : k < n
  · obtain ⟨b, off, rfl, hc⟩ := hr.2 k hlt
    have HS := hide (take_any_step ps (PairV.is x y) k (by rw [hr.1]; exact hlt))
    have HH := hide (any_hit ps (PairV.is x y) k (by rw [hr.1]; exact hlt))
    generalize ps.getD k default = q at hc HS HH
    have d0 : w.cell? ⟨b, off + k * 2, none⟩ = some (.int .i64 q.a) := hc 0 (by omega)
    have d1 : w.cell? ⟨b, off + k * 2 + 1, none⟩ = some (.int .i64 q.b) := hc 1 (by omega)
    clear hc hr
    rcases PairV.is_cases x y q with ⟨e1, hi⟩ | ⟨e1, e2, hi⟩ | ⟨e1, e2, hi⟩
    case inr.inr =>
     have HI := hide hi
     clear hi
     go_wp2
     go_ret
     exact ⟨ret_bool (HH.out HI.out).symm, rfl⟩
    all_goals
     have HI := hide hi
     clear hi
     go_wp2
     go_round
     case rel => exact ⟨k + 1, by omega, by go_num, by rw [unhide HS, unhide H0, unhide HI]; rfl⟩
     case measure => simp [intOf]; omega
  · have HE := hide (take_any_end ps (PairV.is x y) k (by rw [hr.1]; omega) H0.out)
    go_wp2
    go_ret
    exact ⟨ret_bool HE.out.symm, rfl⟩
theorem specBeside_at {a : Option Addr} {n c : Nat} {ps : List PairV} {x y : Int} {w : World} {v : Bool} (hv : besB ps x y = v) (hr : RdR PairV.cells 2 w a n ps) (hn : n ≤ 1048600) (m : Nat) :
 Calls Tryz.prog 82 #[.slice a n c, .int .i64 x, .int .i64 y] (w.drewN m) fun e w' => e = .returned (.bool v) ∧ w' = w.drewN m := by
 subst hv
 exact specBeside_any a n c ps x y (w.drewN m) (hr.mono (by omega) PairV.len (below_drewN (Below.refl _ _) _)) hn
set_option maxHeartbeats 800000 in
theorem l1Has_any (a : Option Addr) (n c : Nat) (zs : List Int) (x : Int) (w : World) (hr : Rd w a n zs) (hn : n ≤ 1048600) :
 Calls Tryz.prog 120 #[.slice a n c, .int .i64 x] w fun e w' => e = .returned (.bool (hasI zs x)) ∧ w' = w := by
 go_enter Tryz.func120, Tryz.ntmps120
 go_wp2
 go_loop [5] (fun i => ∃ k : Nat, k ≤ n ∧ i = .int .i64 k ∧ (zs.take k).any (fun y => y == x) = false) (fun i => n - (intOf i).toNat)
 case atStart => exact ⟨0, Nat.zero_le _, rfl, rfl⟩
 case round =>
  obtain ⟨k, hk, rfl, h0⟩ := hrel
  have H0 := hide h0
  clear h0
  by_cases hlt : k < n
  · obtain ⟨b, off, rfl, hc⟩ := hr.2 k hlt
    have HS := hide (take_any_step zs (fun y => y == x) k (by rw [hr.1]; exact hlt))
    have HH := hide (any_hit zs (fun y => y == x) k (by rw [hr.1]; exact hlt))
    rw [show zs.getD k 0 = zs.getD k default from rfl] at hc
    generalize zs.getD k default = q at hc HS HH
    clear hr
    cases e1 : (q == x)
    · go_wp2
      go_round
      case rel => exact ⟨k + 1, by omega, by go_num, by rw [unhide HS, unhide H0, e1]; rfl⟩
      case measure => simp [intOf]; omega
    · go_wp2
      go_ret
      exact ⟨ret_bool (HH.out e1).symm, rfl⟩
  · have HE := hide (take_any_end zs (fun y => y == x) k (by rw [hr.1]; omega) H0.out)
    go_wp2
    go_ret
    exact ⟨ret_bool HE.out.symm, rfl⟩
set_option maxHeartbeats 800000 in
theorem indexInt_any (a : Option Addr) (n c : Nat) (zs : List Int) (x : Int) (w : World) (hr : Rd w a n zs) (hn : n ≤ 1048600) :
 Calls Tryz.prog 138 #[.slice a n c, .int .i64 x] w fun e w' => ∃ r : Int, e = .returned (.int .i64 r) ∧ decide (0 ≤ r) = hasI zs x ∧ w' = w := by
 go_enter Tryz.func138, Tryz.ntmps138
 go_wp2
 go_loop [8] (fun i => ∃ k : Nat, k ≤ n ∧ i = .int .i64 k ∧ (zs.take k).any (fun y => y == x) = false) (fun i => n - (intOf i).toNat)
 case atStart => exact ⟨0, Nat.zero_le _, rfl, rfl⟩
 case round =>
  obtain ⟨k, hk, rfl, h0⟩ := hrel
  have H0 := hide h0
  clear h0
  by_cases hlt : k < n
  · obtain ⟨b, off, rfl, hc⟩ := hr.2 k hlt
    have HS := hide (take_any_step zs (fun y => y == x) k (by rw [hr.1]; exact hlt))
    have HH := hide (any_hit zs (fun y => y == x) k (by rw [hr.1]; exact hlt))
    rw [show zs.getD k 0 = zs.getD k default from rfl] at hc
    generalize zs.getD k default = q at hc HS HH
    clear hr
    cases e1 : (x == q)
    · have HF : Hid ((q == x) = false) := (flip_beq q x).trans e1
      go_wp2
      go_round
      case rel => exact ⟨k + 1, by omega, by go_num, by rw [unhide HS, unhide H0, unhide HF]; rfl⟩
      case measure => simp [intOf]; omega
    · have HF : Hid ((q == x) = true) := (flip_beq q x).trans e1
      go_wp2
      go_ret
      exact ⟨k, rfl, (decide_eq_true (by omega)).trans (HH.out HF.out).symm, rfl⟩
  · have HE := hide (take_any_end zs (fun y => y == x) k (by rw [hr.1]; omega) H0.out)
    go_wp2
    go_ret
    exact ⟨-1, rfl, HE.out.symm, rfl⟩
theorem containsInt_any (a : Option Addr) (n c : Nat) (zs : List Int) (x : Int) (w : World) (hr : Rd w a n zs) (hn : n ≤ 1048600) :
 Calls Tryz.prog 131 #[.slice a n c, .int .i64 x] w fun e w' => e = .returned (.bool (hasI zs x)) ∧ w' = w := by
 go_enter Tryz.func131, Tryz.ntmps131
 go_wp2_with fail
 refine (indexInt_any a n c zs x w hr hn).mono ?_
 rintro e w' ⟨r, rfl, hd, rfl⟩
 have HD := hide hd
 clear hd
 go_wp2
 go_ret
 exact ⟨ret_bool HD.out, rfl⟩
end Go.Proofs.YtcblpoeeembniabGreatDoor

/- A table of four times four flags, in plain words. -/
namespace Go.Proofs.YtcblpoeeembniabGreatDoor
open Go.RowKit
set_option linter.unusedVariables false

/-- The flag of row a, column b. -/
def fl (F : List Bool) (i : Nat) : Bool := F.getD i false
def flagsOf (ps : List PairV) (c : Nat) : List Bool := (List.range 16).map fun (i : Nat) => decide (i / 4 < c) && decide (i % 4 < c) && besB ps ((i / 4 : Nat) : Int) ((i % 4 : Nat) : Int)
theorem flagsOf_len (ps : List PairV) (c : Nat) : (flagsOf ps c).length = 16 := by simp [flagsOf]
theorem flagsOf_at (ps : List PairV) (c i : Nat) (h : i < 16) : (flagsOf ps c)[i]? = some (decide (i / 4 < c) && decide (i % 4 < c) && besB ps ((i / 4 : Nat) : Int) ((i % 4 : Nat) : Int)) := by
 simp [flagsOf, h]
theorem flagsOf_fl (ps : List PairV) (c i : Nat) (h : i < 16) : fl (flagsOf ps c) i = (decide (i / 4 < c) && decide (i % 4 < c) && besB ps ((i / 4 : Nat) : Int) ((i % 4 : Nat) : Int)) := by
 rw [fl, List.getD_eq_getElem?_getD, flagsOf_at ps c i h]
 rfl
theorem flagsOf_two (ps : List PairV) (c i j : Nat) (hi : i < 4) (hj : j < 4) : fl (flagsOf ps c) (i * 4 + j) = (decide (i < c) && decide (j < c) && besB ps (i : Int) (j : Int)) := by
 rw [flagsOf_fl ps c _ (by omega), show (i * 4 + j) / 4 = i by omega, show (i * 4 + j) % 4 = j by omega]
theorem besB_snoc (ps : List PairV) (q : PairV) (x y : Int) : besB (ps ++ [q]) x y = (besB ps x y || PairV.is x y q) := by simp [besB]
theorem flags_none (c : Nat) : flagsOf [] c = List.replicate 16 false := by
 refine List.ext_getElem? fun i => ?_
 by_cases h : i < 16
 · rw [flagsOf_at [] c i h, List.getElem?_replicate, if_pos h]
   simp [besB]
 · rw [List.getElem?_eq_none (by rw [flagsOf_len]; omega), List.getElem?_eq_none (by simp; omega)]
theorem flags_skip (ps : List PairV) (q : PairV) (c : Nat) (h : ¬ (0 ≤ q.a ∧ q.a ≤ (c : Int) - 1 ∧ 0 ≤ q.b ∧ q.b ≤ (c : Int) - 1)) : flagsOf (ps ++ [q]) c = flagsOf ps c := by
 refine List.ext_getElem? fun i => ?_
 by_cases hi : i < 16
 · rw [flagsOf_at _ c i hi, flagsOf_at _ c i hi, besB_snoc]
   congr 1
   by_cases h1 : i / 4 < c
   · by_cases h2 : i % 4 < c
     · have : PairV.is ((i / 4 : Nat) : Int) ((i % 4 : Nat) : Int) q = false := by
        unfold PairV.is
        rw [Bool.and_eq_false_iff, beq_eq_false_iff_ne, beq_eq_false_iff_ne]
        omega
       rw [this, Bool.or_false]
     · simp [h2]
   · simp [h1]
 · rw [List.getElem?_eq_none (by rw [flagsOf_len]; omega), List.getElem?_eq_none (by rw [flagsOf_len]; omega)]
theorem flags_hit (ps : List PairV) (q : PairV) (c A B : Nat) (hA : q.a = A) (hB : q.b = B) (h1 : A < c) (h2 : B < c) (hc : c ≤ 4) : flagsOf (ps ++ [q]) c = (flagsOf ps c).set (A * 4 + B) true := by
 refine List.ext_getElem? fun i => ?_
 by_cases hi : i < 16
 · by_cases e : i = A * 4 + B
   · subst e
     rw [List.getElem?_set_self (by rw [flagsOf_len]; exact hi), flagsOf_at _ c _ hi, besB_snoc]
     have e1 : (A * 4 + B) / 4 = A := by omega
     have e2 : (A * 4 + B) % 4 = B := by omega
     rw [e1, e2]
     have : PairV.is (A : Int) (B : Int) q = true := by
      unfold PairV.is
      rw [Bool.and_eq_true, beq_iff_eq, beq_iff_eq]
      exact ⟨hA, hB⟩
     simp [this, h1, h2]
   · rw [List.getElem?_set_ne (by omega), flagsOf_at _ c _ hi, flagsOf_at _ c _ hi, besB_snoc]
     have : PairV.is ((i / 4 : Nat) : Int) ((i % 4 : Nat) : Int) q = false := by
      unfold PairV.is
      rw [Bool.and_eq_false_iff, beq_eq_false_iff_ne, beq_eq_false_iff_ne]
      omega
     rw [this, Bool.or_false]
 · rw [List.getElem?_eq_none (by rw [flagsOf_len]; omega), List.getElem?_eq_none (by rw [List.length_set, flagsOf_len]; omega)]
/-- The table turned round. -/
def turnL (F : List Bool) : List Bool := (List.range 16).map fun (i : Nat) => fl F (i % 4 * 4 + i / 4)
def sameF (F G : List Bool) : Bool := (List.range 4).all fun i => (List.range 4).all fun j => fl F (i * 4 + j) == fl G (i * 4 + j)
def selfB (F : List Bool) (c : Nat) : Bool := (List.range c).all fun k => fl F (k * 4 + k)
theorem turnL_two (F : List Bool) (i j : Nat) (hi : i < 4) (hj : j < 4) : fl (turnL F) (i * 4 + j) = fl F (j * 4 + i) := by
 have h : i * 4 + j < 16 := by omega
 rw [fl, List.getD_eq_getElem?_getD]
 simp only [turnL, List.getElem?_map, List.getElem?_range h, Option.map_some, Option.getD_some]
 rw [show (i * 4 + j) / 4 = i by omega, show (i * 4 + j) % 4 = j by omega]
theorem table_flags (ps : List PairV) (c : Nat) (h1 : 1 ≤ c) (h4 : c ≤ 4) : (sameF (flagsOf ps c) (turnL (flagsOf ps c)) && selfB (flagsOf ps c) c) = tableB ps (c : Int) := by
 rw [Bool.eq_iff_iff]
 unfold tableB sameF selfB tableRow
 rw [Int.toNat_natCast]
 simp only [Bool.and_eq_true, List.all_eq_true, List.mem_range, decide_eq_true_eq, Bool.not_eq_true', Bool.or_eq_false_iff, Bool.and_eq_false_iff, decide_eq_false_iff_not, Bool.not_eq_false', beq_iff_eq, bne_eq_false_iff_eq]
 constructor
 · rintro ⟨hs, hd⟩
   refine ⟨⟨by omega, by omega⟩, fun a ha b hb => ⟨?_, ?_⟩⟩
   · right
     have := hd a ha
     rw [flagsOf_two ps c a a (by omega) (by omega)] at this
     simpa [ha] using this
   · have := hs a (by omega) b (by omega)
     rw [turnL_two _ a b (by omega) (by omega), flagsOf_two ps c a b (by omega) (by omega), flagsOf_two ps c b a (by omega) (by omega)] at this
     simpa [ha, hb] using this
 · rintro ⟨_, h⟩
   refine ⟨fun i hi j hj => ?_, fun k hk => ?_⟩
   · rw [turnL_two _ i j hi hj, flagsOf_two ps c i j hi hj, flagsOf_two ps c j i hj hi]
     by_cases a1 : i < c
     · by_cases a2 : j < c
       · simp [a1, a2, (h i a1 j a2).2]
       · simp [a2]
     · simp [a1]
   · rw [flagsOf_two ps c k k (by omega) (by omega)]
     rcases (h k hk k hk).1 with e | e
     · exact absurd rfl e
     · simp [hk, e]
def inBT (c : Int) : Bool := decide (1 ≤ c) && decide (c ≤ 4)
theorem table_out (ps : List PairV) (c : Int) (h : inBT c = false) : tableB ps c = false := by
 unfold inBT at h
 unfold tableB
 rw [h, Bool.false_and]
end Go.Proofs.YtcblpoeeembniabGreatDoor

/- impl.TableOk: an array of flags, compared as a whole; spec.TableOk. -/
namespace Go.Proofs.YtcblpoeeembniabGreatDoor
open Go.RowKit
set_option linter.unusedVariables false

def flc (F : List Bool) : List Value := F.map Value.bool
theorem flc_len (F : List Bool) : (flc F).length = F.length := by simp [flc]
theorem flc_at (F : List Bool) (i : Nat) (h : i < F.length) : (flc F)[i]? = some (.bool (fl F i)) := by
 simp [flc, fl, h]
theorem flc_set (F : List Bool) (i : Nat) (v : Bool) : (flc F).set i (.bool v) = flc (F.set i v) := by
 simp [flc, List.map_set]
theorem Blk.flag {w : World} {g : Nat} {F : List Bool} (h : Blk w g (flc F)) (i : Nat) (hi : i < F.length) : w.cell? ⟨g, i, none⟩ = some (.bool (fl F i)) ∧ w.frozen? ⟨g, i, none⟩ = false := by
 have := h i (by rw [flc_len]; exact hi)
 rw [flc_at F i hi] at this
 exact this
theorem sixteen (F : List Bool) (h : F.length = 16) : ∃ b0 b1 b2 b3 b4 b5 b6 b7 b8 b9 b10 b11 b12 b13 b14 b15, F = [b0, b1, b2, b3, b4, b5, b6, b7, b8, b9, b10, b11, b12, b13, b14, b15] := by
 match F, h with
 | [b0, b1, b2, b3, b4, b5, b6, b7, b8, b9, b10, b11, b12, b13, b14, b15], _ => exact ⟨b0, b1, b2, b3, b4, b5, b6, b7, b8, b9, b10, b11, b12, b13, b14, b15, rfl⟩

/-- Equality of arrays. -/
theorem run_equal_array {P : Program} {w : World} {d n k : Nat} {t e : TypeId} {xs ys : Array Value} {a b : Nat → Value} {r : Nat → Bool} (ht : P.underlying t = some (.array n e)) (hk : ∀ w, (sizeOf e).run P w = .ok k w)
 (ha : ∀ i, i < n → (part e xs (i * k)).run P w = .ok (a i) w) (hb : ∀ i, i < n → (part e ys (i * k)).run P w = .ok (b i) w) (hr : ∀ i, i < n → (Op.equalIn d e (a i) (b i)).run P w = .ok (r i) w) :
 (Op.equalIn (d + 1) t (.agg xs) (.agg ys)).run P w = .ok ((List.range n).all r) w := by
 simp only [Op.equalIn, Sem.run_bind, run_underlying ht, Result.andThen_ok, hk, Std.Legacy.Range.forIn_eq_forIn_range', Std.Legacy.Range.size, Nat.sub_zero, Nat.add_one_sub_one, Nat.div_one, List.range_eq_range']
 have hin : ∀ i ∈ List.range' 0 n, i < n := fun i hi => by simpa using hi
 generalize List.range' 0 n = ls at hin
 induction ls with
 | nil => simp
 | cons i ls ih =>
  have hi := hin i (by simp)
  simp only [List.forIn_cons, Sem.run_bind, ha i hi, hb i hi, hr i hi, Result.andThen_ok, List.all_cons]
  cases r i
  · simp
  · simpa using ih (fun j hj => hin j (by simp [hj]))

theorem eq_row (p0 p1 p2 p3 q0 q1 q2 q3 : Bool) (d : Nat) (w : World) : (Op.equalIn (d + 2) 160 (.agg #[.bool p0, .bool p1, .bool p2, .bool p3]) (.agg #[.bool q0, .bool q1, .bool q2, .bool q3])).run Tryz.prog w = .ok ((p0 == q0) && (p1 == q1) && (p2 == q2) && (p3 == q3)) w := by
 have h := run_equal_array (P := Tryz.prog) (w := w) (d := d + 1) (k := 1) (e := 4) (xs := #[.bool p0, .bool p1, .bool p2, .bool p3]) (ys := #[.bool q0, .bool q1, .bool q2, .bool q3]) (a := fun i => .bool (fl [p0, p1, p2, p3] i)) (b := fun i => .bool (fl [q0, q1, q2, q3] i)) (r := fun i => fl [p0, p1, p2, p3] i == fl [q0, q1, q2, q3] i) Tryz.underlying160 (by intro w; simp [go_sem])
  (by intro i hi; match i, hi with | 0, _ => simp [go_sem, fl] | 1, _ => simp [go_sem, fl] | 2, _ => simp [go_sem, fl] | 3, _ => simp [go_sem, fl])
  (by intro i hi; match i, hi with | 0, _ => simp [go_sem, fl] | 1, _ => simp [go_sem, fl] | 2, _ => simp [go_sem, fl] | 3, _ => simp [go_sem, fl]) (by intro i hi; exact run_equalIn_bool' w d _ _ _ Tryz.underlying4)
 rw [h]
 simp [fl, List.range, List.range.loop, Bool.and_assoc]
theorem eq_table (b0 b1 b2 b3 b4 b5 b6 b7 b8 b9 b10 b11 b12 b13 b14 b15 c0 c1 c2 c3 c4 c5 c6 c7 c8 c9 c10 c11 c12 c13 c14 c15 : Bool) (w : World) : (Op.equalIn 10000 162 (.agg #[.bool b0, .bool b1, .bool b2, .bool b3, .bool b4, .bool b5, .bool b6, .bool b7, .bool b8, .bool b9, .bool b10, .bool b11, .bool b12, .bool b13, .bool b14, .bool b15]) (.agg #[.bool c0, .bool c1, .bool c2, .bool c3, .bool c4, .bool c5, .bool c6, .bool c7, .bool c8, .bool c9, .bool c10, .bool c11, .bool c12, .bool c13, .bool c14, .bool c15])).run Tryz.prog w = .ok (sameF [b0, b1, b2, b3, b4, b5, b6, b7, b8, b9, b10, b11, b12, b13, b14, b15] [c0, c1, c2, c3, c4, c5, c6, c7, c8, c9, c10, c11, c12, c13, c14, c15]) w := by
 have h := run_equal_array (P := Tryz.prog) (w := w) (d := 9999) (k := 4) (n := 4) (t := 162) (e := 160) (xs := #[.bool b0, .bool b1, .bool b2, .bool b3, .bool b4, .bool b5, .bool b6, .bool b7, .bool b8, .bool b9, .bool b10, .bool b11, .bool b12, .bool b13, .bool b14, .bool b15]) (ys := #[.bool c0, .bool c1, .bool c2, .bool c3, .bool c4, .bool c5, .bool c6, .bool c7, .bool c8, .bool c9, .bool c10, .bool c11, .bool c12, .bool c13, .bool c14, .bool c15])
  (a := fun i => .agg #[.bool (fl [b0, b1, b2, b3, b4, b5, b6, b7, b8, b9, b10, b11, b12, b13, b14, b15] (i * 4)), .bool (fl [b0, b1, b2, b3, b4, b5, b6, b7, b8, b9, b10, b11, b12, b13, b14, b15] (i * 4 + 1)), .bool (fl [b0, b1, b2, b3, b4, b5, b6, b7, b8, b9, b10, b11, b12, b13, b14, b15] (i * 4 + 2)), .bool (fl [b0, b1, b2, b3, b4, b5, b6, b7, b8, b9, b10, b11, b12, b13, b14, b15] (i * 4 + 3))]) (b := fun i => .agg #[.bool (fl [c0, c1, c2, c3, c4, c5, c6, c7, c8, c9, c10, c11, c12, c13, c14, c15] (i * 4)), .bool (fl [c0, c1, c2, c3, c4, c5, c6, c7, c8, c9, c10, c11, c12, c13, c14, c15] (i * 4 + 1)), .bool (fl [c0, c1, c2, c3, c4, c5, c6, c7, c8, c9, c10, c11, c12, c13, c14, c15] (i * 4 + 2)), .bool (fl [c0, c1, c2, c3, c4, c5, c6, c7, c8, c9, c10, c11, c12, c13, c14, c15] (i * 4 + 3))])
  (r := fun i => (fl [b0, b1, b2, b3, b4, b5, b6, b7, b8, b9, b10, b11, b12, b13, b14, b15] (i * 4) == fl [c0, c1, c2, c3, c4, c5, c6, c7, c8, c9, c10, c11, c12, c13, c14, c15] (i * 4)) && (fl [b0, b1, b2, b3, b4, b5, b6, b7, b8, b9, b10, b11, b12, b13, b14, b15] (i * 4 + 1) == fl [c0, c1, c2, c3, c4, c5, c6, c7, c8, c9, c10, c11, c12, c13, c14, c15] (i * 4 + 1)) && (fl [b0, b1, b2, b3, b4, b5, b6, b7, b8, b9, b10, b11, b12, b13, b14, b15] (i * 4 + 2) == fl [c0, c1, c2, c3, c4, c5, c6, c7, c8, c9, c10, c11, c12, c13, c14, c15] (i * 4 + 2)) && (fl [b0, b1, b2, b3, b4, b5, b6, b7, b8, b9, b10, b11, b12, b13, b14, b15] (i * 4 + 3) == fl [c0, c1, c2, c3, c4, c5, c6, c7, c8, c9, c10, c11, c12, c13, c14, c15] (i * 4 + 3))) Tryz.underlying162 (by intro w; simp [go_sem])
  (by intro i hi; match i, hi with | 0, _ => simp [go_sem, fl] | 1, _ => simp [go_sem, fl] | 2, _ => simp [go_sem, fl] | 3, _ => simp [go_sem, fl])
  (by intro i hi; match i, hi with | 0, _ => simp [go_sem, fl] | 1, _ => simp [go_sem, fl] | 2, _ => simp [go_sem, fl] | 3, _ => simp [go_sem, fl]) (by intro i hi; exact eq_row _ _ _ _ _ _ _ _ 9997 w)
 rw [h]
 simp [sameF, fl, List.range, List.range.loop, Bool.and_assoc]

theorem range_all_step (f : Nat → Bool) (k : Nat) : (List.range (k + 1)).all f = ((List.range k).all f && f k) := by
 rw [List.range_succ, List.all_append]
 simp
theorem range_all_miss (f : Nat → Bool) (n k : Nat) (h : k < n) (hf : f k = false) : (List.range n).all f = false := by
 rw [List.all_eq_false]
 exact ⟨k, List.mem_range.2 h, by simp [hf]⟩
set_option maxHeartbeats 1000000 in
theorem withItself_any (F : List Bool) (hF : F.length = 16) (c : Nat) (hc : c ≤ 4) (w : World) :
 Calls Tryz.prog 116 #[.agg (flc F).toArray, .int .i64 (c : Int)] w fun e w' => e = .returned (.bool (selfB F c)) ∧ Below w.heap.size w w' := by
 have HB : Hid (Below w.heap.size w (w.alloc (.cells (flc F).toArray 162))) := (Below.refl _ _).alloc (Nat.le_refl _) _
 have HK : Hid (Blk (w.alloc (.cells (flc F).toArray 162)) w.heap.size (flc F)) := Blk.allocAt (flc F) rfl
 obtain ⟨b0, b1, b2, b3, b4, b5, b6, b7, b8, b9, b10, b11, b12, b13, b14, b15, hFe⟩ := sixteen F hF
 have hA : (flc F).toArray = #[.bool b0, .bool b1, .bool b2, .bool b3, .bool b4, .bool b5, .bool b6, .bool b7, .bool b8, .bool b9, .bool b10, .bool b11, .bool b12, .bool b13, .bool b14, .bool b15] := by rw [hFe]; rfl
 rw [hA] at HB HK ⊢
 clear hA hFe
 go_enter Tryz.func116, Tryz.ntmps116
 go_wp2
 generalize w.alloc (.cells #[.bool b0, .bool b1, .bool b2, .bool b3, .bool b4, .bool b5, .bool b6, .bool b7, .bool b8, .bool b9, .bool b10, .bool b11, .bool b12, .bool b13, .bool b14, .bool b15] 162) = w1 at HB HK ⊢
 go_loop [7] (fun i => ∃ k : Nat, k ≤ c ∧ i = .int .i64 k ∧ (List.range k).all (fun k => fl F (k * 4 + k)) = true) (fun i => c - (intOf i).toNat)
 case atStart => exact ⟨0, Nat.zero_le _, rfl, rfl⟩
 case round =>
  obtain ⟨k, hk, rfl, hd⟩ := hrel
  have HD := hide hd
  clear hd
  by_cases hlt : k < c
  · obtain ⟨hcell, _⟩ := HK.out.flag (k * 4 + k) (by omega)
    cases hv : fl F (k * 4 + k)
    · rw [hv] at hcell
      have HM : Hid (selfB F c = false) := range_all_miss _ c k hlt hv
      go_wp2
      go_ret
      exact ⟨ret_bool HM.out.symm, unhide HB⟩
    · rw [hv] at hcell
      have HS := hide (range_all_step (fun k => fl F (k * 4 + k)) k)
      have HV := hide hv
      clear hv
      go_wp2
      go_round
      case rel => exact ⟨k + 1, by omega, by go_num, by rw [unhide HS, unhide HD, unhide HV]; rfl⟩
      case measure => simp [intOf]; omega
  · obtain rfl : k = c := by omega
    go_wp2
    go_ret
    exact ⟨ret_bool HD.out.symm, unhide HB⟩
/-- Turned up to row i, column j. -/
def turnTo (F G : List Bool) (i j : Nat) : Prop := G.length = 16 ∧ ∀ a b, a < 4 → b < 4 → (a < i ∨ a = i ∧ b < j) → fl G (b * 4 + a) = fl F (a * 4 + b)
theorem turnTo.step {F G : List Bool} {i j : Nat} (h : turnTo F G i j) (hi : i < 4) (hj : j < 4) : turnTo F (G.set (j * 4 + i) (fl F (i * 4 + j))) i (j + 1) := by
 refine ⟨by rw [List.length_set]; exact h.1, fun a b ha hb hab => ?_⟩
 by_cases e : b * 4 + a = j * 4 + i
 · have e1 : a = i := by omega
   have e2 : b = j := by omega
   subst e1 e2
   rw [fl, List.getD_eq_getElem?_getD, List.getElem?_set_self (by rw [h.1]; omega)]
   rfl
 · have := h.2 a b ha hb (by omega)
   rw [← this]
   unfold fl
   simp only [List.getD_eq_getElem?_getD]
   rw [ List.getElem?_set_ne (by omega)]
theorem turnTo.row {F G : List Bool} {i : Nat} (h : turnTo F G i 4) : turnTo F G (i + 1) 0 :=
 ⟨h.1, fun a b ha hb hab => h.2 a b ha hb (by omega)⟩
theorem turnTo.done {F G : List Bool} (h : turnTo F G 4 0) : G = turnL F := by
 refine List.ext_getElem? fun i => ?_
 by_cases hi : i < 16
 · have h1 := h.2 (i % 4) (i / 4) (by omega) (by omega) (by omega)
   rw [show i / 4 * 4 + i % 4 = i by omega] at h1
   rw [fl, List.getD_eq_getElem?_getD, List.getElem?_eq_getElem (by rw [h.1]; exact hi)] at h1
   rw [List.getElem?_eq_getElem (by rw [h.1]; exact hi)]
   simp only [turnL, List.getElem?_map, List.getElem?_range hi, Option.map_some]
   rw [← h1]
   rfl
 · rw [List.getElem?_eq_none (by rw [h.1]; omega), List.getElem?_eq_none (by simp [turnL]; omega)]
set_option maxHeartbeats 4000000 in
theorem turned_any (F : List Bool) (hF : F.length = 16) (w : World) :
 Calls Tryz.prog 115 #[.agg (flc F).toArray] w fun e w' => e = .returned (.agg (flc (turnL F)).toArray) ∧ Below w.heap.size w w' := by
 have HK : Hid (Blk (w.alloc (.cells (flc F).toArray 162)) w.heap.size (flc F)) := Blk.allocAt (flc F) rfl
 obtain ⟨b0, b1, b2, b3, b4, b5, b6, b7, b8, b9, b10, b11, b12, b13, b14, b15, hFe⟩ := sixteen F hF
 have hA : (flc F).toArray = #[.bool b0, .bool b1, .bool b2, .bool b3, .bool b4, .bool b5, .bool b6, .bool b7, .bool b8, .bool b9, .bool b10, .bool b11, .bool b12, .bool b13, .bool b14, .bool b15] := by rw [hFe]; rfl
 rw [hA] at HK ⊢
 clear hA hFe
 have HB : Hid (Below w.heap.size w (((w.alloc (.cells #[.bool b0, .bool b1, .bool b2, .bool b3, .bool b4, .bool b5, .bool b6, .bool b7, .bool b8, .bool b9, .bool b10, .bool b11, .bool b12, .bool b13, .bool b14, .bool b15] 162)).alloc (.cells #[.bool false, .bool false, .bool false, .bool false, .bool false, .bool false, .bool false, .bool false, .bool false, .bool false, .bool false, .bool false, .bool false, .bool false, .bool false, .bool false] 162)).alloc (.cells #[.bool false, .bool false, .bool false, .bool false, .bool false, .bool false, .bool false, .bool false, .bool false, .bool false, .bool false, .bool false, .bool false, .bool false, .bool false, .bool false] 162))) := (((Below.refl _ _).alloc (Nat.le_refl _) _).alloc (by simp) _).alloc (by simp; omega) _
 have HKA : Hid (Blk (((w.alloc (.cells #[.bool b0, .bool b1, .bool b2, .bool b3, .bool b4, .bool b5, .bool b6, .bool b7, .bool b8, .bool b9, .bool b10, .bool b11, .bool b12, .bool b13, .bool b14, .bool b15] 162)).alloc (.cells #[.bool false, .bool false, .bool false, .bool false, .bool false, .bool false, .bool false, .bool false, .bool false, .bool false, .bool false, .bool false, .bool false, .bool false, .bool false, .bool false] 162)).alloc (.cells #[.bool false, .bool false, .bool false, .bool false, .bool false, .bool false, .bool false, .bool false, .bool false, .bool false, .bool false, .bool false, .bool false, .bool false, .bool false, .bool false] 162)) w.heap.size (flc F)) := (HK.out.allocOld (by simp) _).allocOld (by simp; omega) _
 have HKR : Hid (Blk (((w.alloc (.cells #[.bool b0, .bool b1, .bool b2, .bool b3, .bool b4, .bool b5, .bool b6, .bool b7, .bool b8, .bool b9, .bool b10, .bool b11, .bool b12, .bool b13, .bool b14, .bool b15] 162)).alloc (.cells #[.bool false, .bool false, .bool false, .bool false, .bool false, .bool false, .bool false, .bool false, .bool false, .bool false, .bool false, .bool false, .bool false, .bool false, .bool false, .bool false] 162)).alloc (.cells #[.bool false, .bool false, .bool false, .bool false, .bool false, .bool false, .bool false, .bool false, .bool false, .bool false, .bool false, .bool false, .bool false, .bool false, .bool false, .bool false] 162)) (w.heap.size + 1) (flc (List.replicate 16 false))) := (Blk.allocAt (flc (List.replicate 16 false)) (by simp)).allocOld (by simp) _
 have HKG : Hid (Blk (((w.alloc (.cells #[.bool b0, .bool b1, .bool b2, .bool b3, .bool b4, .bool b5, .bool b6, .bool b7, .bool b8, .bool b9, .bool b10, .bool b11, .bool b12, .bool b13, .bool b14, .bool b15] 162)).alloc (.cells #[.bool false, .bool false, .bool false, .bool false, .bool false, .bool false, .bool false, .bool false, .bool false, .bool false, .bool false, .bool false, .bool false, .bool false, .bool false, .bool false] 162)).alloc (.cells #[.bool false, .bool false, .bool false, .bool false, .bool false, .bool false, .bool false, .bool false, .bool false, .bool false, .bool false, .bool false, .bool false, .bool false, .bool false, .bool false] 162)) (w.heap.size + 2) (flc (List.replicate 16 false))) := Blk.allocAt (flc (List.replicate 16 false)) (by simp)
 go_enter Tryz.func115, Tryz.ntmps115
 go_wp2
 generalize ((w.alloc (.cells #[.bool b0, .bool b1, .bool b2, .bool b3, .bool b4, .bool b5, .bool b6, .bool b7, .bool b8, .bool b9, .bool b10, .bool b11, .bool b12, .bool b13, .bool b14, .bool b15] 162)).alloc (.cells #[.bool false, .bool false, .bool false, .bool false, .bool false, .bool false, .bool false, .bool false, .bool false, .bool false, .bool false, .bool false, .bool false, .bool false, .bool false, .bool false] 162)).alloc (.cells #[.bool false, .bool false, .bool false, .bool false, .bool false, .bool false, .bool false, .bool false, .bool false, .bool false, .bool false, .bool false, .bool false, .bool false, .bool false, .bool false] 162) = w1 at HB HKA HKR HKG ⊢
 go_loopw [6] (fun i wr => ∃ (k : Nat) (G : List Bool), k ≤ 4 ∧ i = .int .i64 k ∧ turnTo F G k 0 ∧ Below w.heap.size w wr ∧ Blk wr w.heap.size (flc F) ∧ Blk wr (w.heap.size + 1) (flc (List.replicate 16 false)) ∧ Blk wr (w.heap.size + 2) (flc G)) (fun i _ => 4 - (intOf i).toNat)
 case atStart => exact ⟨0, List.replicate 16 false, by omega, rfl, ⟨by simp, fun a b _ _ h => by omega⟩, unhide HB, unhide HKA, unhide HKR, unhide HKG⟩
 case round =>
  clear HB HK HKA HKR HKG
  obtain ⟨i, G, hi, rfl, ht, hbel, hka, hkr, hkg⟩ := hrel
  by_cases hlt : i < 4
  case neg =>
   obtain rfl : i = 4 := by omega
   have hgt : G = turnL F := ht.done
   obtain ⟨c0, c1, c2, c3, c4, c5, c6, c7, c8, c9, c10, c11, c12, c13, c14, c15, hG⟩ := sixteen G ht.1
   have HV : Hid (Value.agg (flc (turnL F)).toArray = .agg #[.bool c0, .bool c1, .bool c2, .bool c3, .bool c4, .bool c5, .bool c6, .bool c7, .bool c8, .bool c9, .bool c10, .bool c11, .bool c12, .bool c13, .bool c14, .bool c15]) := by rw [← hgt, hG]; rfl
   have HBE := hide (below_write (B := w.heap.size) (g := w.heap.size + 1) (by omega) (flc G) _ _ 0 hbel)
   rw [hG] at hkg HBE
   have t0 : wr.cell? ⟨w.heap.size + 1 + 1, 0, none⟩ = some (.bool c0) := (hkg 0 (by simp [flc])).1
   have r0 : wr.cell? ⟨w.heap.size + 1, 0, none⟩ = some (.bool false) := (hkr 0 (by simp [flc])).1
   have z0 : wr.frozen? ⟨w.heap.size + 1, 0, none⟩ = false := (hkr 0 (by simp [flc])).2
   have t1 : wr.cell? ⟨w.heap.size + 1 + 1, 1, none⟩ = some (.bool c1) := (hkg 1 (by simp [flc])).1
   have r1 : wr.cell? ⟨w.heap.size + 1, 1, none⟩ = some (.bool false) := (hkr 1 (by simp [flc])).1
   have z1 : wr.frozen? ⟨w.heap.size + 1, 1, none⟩ = false := (hkr 1 (by simp [flc])).2
   have t2 : wr.cell? ⟨w.heap.size + 1 + 1, 2, none⟩ = some (.bool c2) := (hkg 2 (by simp [flc])).1
   have r2 : wr.cell? ⟨w.heap.size + 1, 2, none⟩ = some (.bool false) := (hkr 2 (by simp [flc])).1
   have z2 : wr.frozen? ⟨w.heap.size + 1, 2, none⟩ = false := (hkr 2 (by simp [flc])).2
   have t3 : wr.cell? ⟨w.heap.size + 1 + 1, 3, none⟩ = some (.bool c3) := (hkg 3 (by simp [flc])).1
   have r3 : wr.cell? ⟨w.heap.size + 1, 3, none⟩ = some (.bool false) := (hkr 3 (by simp [flc])).1
   have z3 : wr.frozen? ⟨w.heap.size + 1, 3, none⟩ = false := (hkr 3 (by simp [flc])).2
   have t4 : wr.cell? ⟨w.heap.size + 1 + 1, 4, none⟩ = some (.bool c4) := (hkg 4 (by simp [flc])).1
   have r4 : wr.cell? ⟨w.heap.size + 1, 4, none⟩ = some (.bool false) := (hkr 4 (by simp [flc])).1
   have z4 : wr.frozen? ⟨w.heap.size + 1, 4, none⟩ = false := (hkr 4 (by simp [flc])).2
   have t5 : wr.cell? ⟨w.heap.size + 1 + 1, 5, none⟩ = some (.bool c5) := (hkg 5 (by simp [flc])).1
   have r5 : wr.cell? ⟨w.heap.size + 1, 5, none⟩ = some (.bool false) := (hkr 5 (by simp [flc])).1
   have z5 : wr.frozen? ⟨w.heap.size + 1, 5, none⟩ = false := (hkr 5 (by simp [flc])).2
   have t6 : wr.cell? ⟨w.heap.size + 1 + 1, 6, none⟩ = some (.bool c6) := (hkg 6 (by simp [flc])).1
   have r6 : wr.cell? ⟨w.heap.size + 1, 6, none⟩ = some (.bool false) := (hkr 6 (by simp [flc])).1
   have z6 : wr.frozen? ⟨w.heap.size + 1, 6, none⟩ = false := (hkr 6 (by simp [flc])).2
   have t7 : wr.cell? ⟨w.heap.size + 1 + 1, 7, none⟩ = some (.bool c7) := (hkg 7 (by simp [flc])).1
   have r7 : wr.cell? ⟨w.heap.size + 1, 7, none⟩ = some (.bool false) := (hkr 7 (by simp [flc])).1
   have z7 : wr.frozen? ⟨w.heap.size + 1, 7, none⟩ = false := (hkr 7 (by simp [flc])).2
   have t8 : wr.cell? ⟨w.heap.size + 1 + 1, 8, none⟩ = some (.bool c8) := (hkg 8 (by simp [flc])).1
   have r8 : wr.cell? ⟨w.heap.size + 1, 8, none⟩ = some (.bool false) := (hkr 8 (by simp [flc])).1
   have z8 : wr.frozen? ⟨w.heap.size + 1, 8, none⟩ = false := (hkr 8 (by simp [flc])).2
   have t9 : wr.cell? ⟨w.heap.size + 1 + 1, 9, none⟩ = some (.bool c9) := (hkg 9 (by simp [flc])).1
   have r9 : wr.cell? ⟨w.heap.size + 1, 9, none⟩ = some (.bool false) := (hkr 9 (by simp [flc])).1
   have z9 : wr.frozen? ⟨w.heap.size + 1, 9, none⟩ = false := (hkr 9 (by simp [flc])).2
   have t10 : wr.cell? ⟨w.heap.size + 1 + 1, 10, none⟩ = some (.bool c10) := (hkg 10 (by simp [flc])).1
   have r10 : wr.cell? ⟨w.heap.size + 1, 10, none⟩ = some (.bool false) := (hkr 10 (by simp [flc])).1
   have z10 : wr.frozen? ⟨w.heap.size + 1, 10, none⟩ = false := (hkr 10 (by simp [flc])).2
   have t11 : wr.cell? ⟨w.heap.size + 1 + 1, 11, none⟩ = some (.bool c11) := (hkg 11 (by simp [flc])).1
   have r11 : wr.cell? ⟨w.heap.size + 1, 11, none⟩ = some (.bool false) := (hkr 11 (by simp [flc])).1
   have z11 : wr.frozen? ⟨w.heap.size + 1, 11, none⟩ = false := (hkr 11 (by simp [flc])).2
   have t12 : wr.cell? ⟨w.heap.size + 1 + 1, 12, none⟩ = some (.bool c12) := (hkg 12 (by simp [flc])).1
   have r12 : wr.cell? ⟨w.heap.size + 1, 12, none⟩ = some (.bool false) := (hkr 12 (by simp [flc])).1
   have z12 : wr.frozen? ⟨w.heap.size + 1, 12, none⟩ = false := (hkr 12 (by simp [flc])).2
   have t13 : wr.cell? ⟨w.heap.size + 1 + 1, 13, none⟩ = some (.bool c13) := (hkg 13 (by simp [flc])).1
   have r13 : wr.cell? ⟨w.heap.size + 1, 13, none⟩ = some (.bool false) := (hkr 13 (by simp [flc])).1
   have z13 : wr.frozen? ⟨w.heap.size + 1, 13, none⟩ = false := (hkr 13 (by simp [flc])).2
   have t14 : wr.cell? ⟨w.heap.size + 1 + 1, 14, none⟩ = some (.bool c14) := (hkg 14 (by simp [flc])).1
   have r14 : wr.cell? ⟨w.heap.size + 1, 14, none⟩ = some (.bool false) := (hkr 14 (by simp [flc])).1
   have z14 : wr.frozen? ⟨w.heap.size + 1, 14, none⟩ = false := (hkr 14 (by simp [flc])).2
   have t15 : wr.cell? ⟨w.heap.size + 1 + 1, 15, none⟩ = some (.bool c15) := (hkg 15 (by simp [flc])).1
   have r15 : wr.cell? ⟨w.heap.size + 1, 15, none⟩ = some (.bool false) := (hkr 15 (by simp [flc])).1
   have z15 : wr.frozen? ⟨w.heap.size + 1, 15, none⟩ = false := (hkr 15 (by simp [flc])).2
   clear hgt hG ht hbel hka hkr hkg
   go_wp2_with fail
   refine bodyPost_ret (v := .agg #[.bool c0, .bool c1, .bool c2, .bool c3, .bool c4, .bool c5, .bool c6, .bool c7, .bool c8, .bool c9, .bool c10, .bool c11, .bool c12, .bool c13, .bool c14, .bool c15]) (by simp [results, Tryz.results115, go_sem, r0, r1, r2, r3, r4, r5, r6, r7, r8, r9, r10, r11, r12, r13, r14, r15]) rfl ?_
   exact ⟨by rw [unhide HV], unhide HBE⟩
  have HT := hide ht
  have HB := hide hbel
  have HKA := hide hka
  have HKR := hide hkr
  have HKG := hide hkg
  clear ht hbel hka hkr hkg
  go_wp2
  go_loopw [9] (fun j wr => ∃ (k : Nat) (G : List Bool), k ≤ 4 ∧ j = .int .i64 k ∧ turnTo F G i k ∧ Below w.heap.size w wr ∧ Blk wr w.heap.size (flc F) ∧ Blk wr (w.heap.size + 1) (flc (List.replicate 16 false)) ∧ Blk wr (w.heap.size + 2) (flc G)) (fun i _ => 4 - (intOf i).toNat)
  case atStart => exact ⟨0, G, by omega, rfl, unhide HT, unhide HB, unhide HKA, unhide HKR, unhide HKG⟩
  case round =>
   clear HT HB HKA HKR HKG G
   obtain ⟨j, G, hj, rfl, ht, hbel, hka, hkr, hkg⟩ := hrel
   by_cases hlt2 : j < 4
   case neg =>
    obtain rfl : j = 4 := by omega
    go_wp2
    go_roundw
    case rel => exact ⟨i + 1, G, by omega, by go_num, ht.row, hbel, hka, hkr, hkg⟩
    case measure => simp [intOf]; omega
   have c1 := (hka.flag (i * 4 + j) (by omega)).1
   have c2 := (hkg.flag (j * 4 + i) (by rw [ht.1]; omega)).1
   have f2 := (hkg.flag (j * 4 + i) (by rw [ht.1]; omega)).2
   have HT := hide (ht.step hlt hlt2)
   have HB : Hid (Below w.heap.size w (wr.setCell ⟨w.heap.size + 2, j * 4 + i, none⟩ (.bool (fl F (i * 4 + j))))) := hbel.setCell (by show w.heap.size ≤ w.heap.size + 2; omega) _
   have HKA := hide (hka.other (g' := w.heap.size + 2) (j := j * 4 + i) (v := .bool (fl F (i * 4 + j))) (by omega))
   have HKR := hide (hkr.other (g' := w.heap.size + 2) (j := j * 4 + i) (v := .bool (fl F (i * 4 + j))) (by omega))
   have HKG : Hid (Blk (wr.setCell ⟨w.heap.size + 2, j * 4 + i, none⟩ (.bool (fl F (i * 4 + j)))) (w.heap.size + 2) (flc (G.set (j * 4 + i) (fl F (i * 4 + j))))) := by
    rw [← flc_set]
    exact hkg.set (by rw [flc_len, ht.1]; omega)
   clear ht hbel hka hkr hkg
   generalize fl F (i * 4 + j) = v at c1 HT HB HKA HKR HKG
   go_wp2_with fail
   go_region
   all_goals
    go_wp2_with fail
    go_roundw
    case rel => exact ⟨j + 1, _, by omega, by go_num, unhide HT, HB.out.drew, unhide HKA, unhide HKR, unhide HKG⟩
    case measure => simp [intOf]; omega

end Go.Proofs.YtcblpoeeembniabGreatDoor

/- impl.tableOf, impl.TableOk, spec.TableOk. -/
namespace Go.Proofs.YtcblpoeeembniabGreatDoor
open Go.RowKit
set_option linter.unusedVariables false
theorem take_snoc {α : Type} [Inhabited α] (xs : List α) (k : Nat) (h : k < xs.length) : xs.take (k + 1) = xs.take k ++ [xs.getD k default] := by
 rw [List.take_succ_eq_append_getElem h]
 simp [h]
set_option maxHeartbeats 4000000 in
theorem tableOf_any (a : Option Addr) (n cp : Nat) (ps : List PairV) (c : Nat) (hc1 : 1 ≤ c) (hc : c ≤ 4) (w : World) (hr : RdR PairV.cells 2 w a n ps) (hn : n ≤ 1048600) :
 Calls Tryz.prog 114 #[.slice a n cp, .int .i64 (c : Int)] w fun e w' => e = .returned (.agg (flc (flagsOf ps c)).toArray) ∧ Below w.heap.size w w' := by
 have HR := hide hr
 clear hr
 have HB : Hid (Below w.heap.size w ((w.alloc (.cells #[.bool false, .bool false, .bool false, .bool false, .bool false, .bool false, .bool false, .bool false, .bool false, .bool false, .bool false, .bool false, .bool false, .bool false, .bool false, .bool false] 162)).alloc (.cells #[.bool false, .bool false, .bool false, .bool false, .bool false, .bool false, .bool false, .bool false, .bool false, .bool false, .bool false, .bool false, .bool false, .bool false, .bool false, .bool false] 162))) := ((Below.refl _ _).alloc (Nat.le_refl _) _).alloc (by simp) _
 have HKR : Hid (Blk ((w.alloc (.cells #[.bool false, .bool false, .bool false, .bool false, .bool false, .bool false, .bool false, .bool false, .bool false, .bool false, .bool false, .bool false, .bool false, .bool false, .bool false, .bool false] 162)).alloc (.cells #[.bool false, .bool false, .bool false, .bool false, .bool false, .bool false, .bool false, .bool false, .bool false, .bool false, .bool false, .bool false, .bool false, .bool false, .bool false, .bool false] 162)) w.heap.size (flc (List.replicate 16 false))) := (Blk.allocAt (flc (List.replicate 16 false)) rfl).allocOld (by simp) _
 have HKT : Hid (Blk ((w.alloc (.cells #[.bool false, .bool false, .bool false, .bool false, .bool false, .bool false, .bool false, .bool false, .bool false, .bool false, .bool false, .bool false, .bool false, .bool false, .bool false, .bool false] 162)).alloc (.cells #[.bool false, .bool false, .bool false, .bool false, .bool false, .bool false, .bool false, .bool false, .bool false, .bool false, .bool false, .bool false, .bool false, .bool false, .bool false, .bool false] 162)) (w.heap.size + 1) (flc (List.replicate 16 false))) := Blk.allocAt (flc (List.replicate 16 false)) (by simp)
 have hz1 : w.heap.size + 1 < ((w.alloc (.cells #[.bool false, .bool false, .bool false, .bool false, .bool false, .bool false, .bool false, .bool false, .bool false, .bool false, .bool false, .bool false, .bool false, .bool false, .bool false, .bool false] 162)).alloc (.cells #[.bool false, .bool false, .bool false, .bool false, .bool false, .bool false, .bool false, .bool false, .bool false, .bool false, .bool false, .bool false, .bool false, .bool false, .bool false, .bool false] 162)).heap.size := by simp
 go_enter Tryz.func114, Tryz.ntmps114
 go_wp2
 generalize (w.alloc (.cells #[.bool false, .bool false, .bool false, .bool false, .bool false, .bool false, .bool false, .bool false, .bool false, .bool false, .bool false, .bool false, .bool false, .bool false, .bool false, .bool false] 162)).alloc (.cells #[.bool false, .bool false, .bool false, .bool false, .bool false, .bool false, .bool false, .bool false, .bool false, .bool false, .bool false, .bool false, .bool false, .bool false, .bool false, .bool false] 162) = w1 at HB HKR HKT hz1 ⊢
 go_loopw [10] (fun i wr => ∃ k : Nat, k ≤ n ∧ i = .int .i64 k ∧ Below w.heap.size w wr ∧ Blk wr w.heap.size (flc (List.replicate 16 false)) ∧ Blk wr (w.heap.size + 1) (flc (flagsOf (ps.take k) c)) ∧ w.heap.size + 1 < wr.heap.size) (fun i _ => n - (intOf i).toNat)
 case atStart => exact ⟨0, Nat.zero_le _, rfl, unhide HB, unhide HKR, by rw [List.take_zero, flags_none]; exact unhide HKT, hz1⟩
 case round =>
  clear HB HKR HKT hz1
  obtain ⟨k, hk, rfl, hbel, hkr, hkt, hz⟩ := hrel
  by_cases hlt : k < n
  case neg =>
   rw [List.take_of_length_le (by rw [HR.out.1]; omega)] at hkt
   obtain ⟨c0, c1, c2, c3, c4, c5, c6, c7, c8, c9, c10, c11, c12, c13, c14, c15, hG⟩ := sixteen (flagsOf ps c) (flagsOf_len ps c)
   have HV : Hid (Value.agg (flc (flagsOf ps c)).toArray = .agg #[.bool c0, .bool c1, .bool c2, .bool c3, .bool c4, .bool c5, .bool c6, .bool c7, .bool c8, .bool c9, .bool c10, .bool c11, .bool c12, .bool c13, .bool c14, .bool c15]) := by rw [hG]; rfl
   have HBE := hide (below_write (B := w.heap.size) (g := w.heap.size) (Nat.le_refl _) (flc (flagsOf ps c)) _ _ 0 hbel)
   rw [hG] at hkt HBE
   have t0 : wr.cell? ⟨w.heap.size + 1, 0, none⟩ = some (.bool c0) := (hkt 0 (by simp [flc])).1
   have r0 : wr.cell? ⟨w.heap.size, 0, none⟩ = some (.bool false) := (hkr 0 (by simp [flc])).1
   have z0 : wr.frozen? ⟨w.heap.size, 0, none⟩ = false := (hkr 0 (by simp [flc])).2
   have t1 : wr.cell? ⟨w.heap.size + 1, 1, none⟩ = some (.bool c1) := (hkt 1 (by simp [flc])).1
   have r1 : wr.cell? ⟨w.heap.size, 1, none⟩ = some (.bool false) := (hkr 1 (by simp [flc])).1
   have z1 : wr.frozen? ⟨w.heap.size, 1, none⟩ = false := (hkr 1 (by simp [flc])).2
   have t2 : wr.cell? ⟨w.heap.size + 1, 2, none⟩ = some (.bool c2) := (hkt 2 (by simp [flc])).1
   have r2 : wr.cell? ⟨w.heap.size, 2, none⟩ = some (.bool false) := (hkr 2 (by simp [flc])).1
   have z2 : wr.frozen? ⟨w.heap.size, 2, none⟩ = false := (hkr 2 (by simp [flc])).2
   have t3 : wr.cell? ⟨w.heap.size + 1, 3, none⟩ = some (.bool c3) := (hkt 3 (by simp [flc])).1
   have r3 : wr.cell? ⟨w.heap.size, 3, none⟩ = some (.bool false) := (hkr 3 (by simp [flc])).1
   have z3 : wr.frozen? ⟨w.heap.size, 3, none⟩ = false := (hkr 3 (by simp [flc])).2
   have t4 : wr.cell? ⟨w.heap.size + 1, 4, none⟩ = some (.bool c4) := (hkt 4 (by simp [flc])).1
   have r4 : wr.cell? ⟨w.heap.size, 4, none⟩ = some (.bool false) := (hkr 4 (by simp [flc])).1
   have z4 : wr.frozen? ⟨w.heap.size, 4, none⟩ = false := (hkr 4 (by simp [flc])).2
   have t5 : wr.cell? ⟨w.heap.size + 1, 5, none⟩ = some (.bool c5) := (hkt 5 (by simp [flc])).1
   have r5 : wr.cell? ⟨w.heap.size, 5, none⟩ = some (.bool false) := (hkr 5 (by simp [flc])).1
   have z5 : wr.frozen? ⟨w.heap.size, 5, none⟩ = false := (hkr 5 (by simp [flc])).2
   have t6 : wr.cell? ⟨w.heap.size + 1, 6, none⟩ = some (.bool c6) := (hkt 6 (by simp [flc])).1
   have r6 : wr.cell? ⟨w.heap.size, 6, none⟩ = some (.bool false) := (hkr 6 (by simp [flc])).1
   have z6 : wr.frozen? ⟨w.heap.size, 6, none⟩ = false := (hkr 6 (by simp [flc])).2
   have t7 : wr.cell? ⟨w.heap.size + 1, 7, none⟩ = some (.bool c7) := (hkt 7 (by simp [flc])).1
   have r7 : wr.cell? ⟨w.heap.size, 7, none⟩ = some (.bool false) := (hkr 7 (by simp [flc])).1
   have z7 : wr.frozen? ⟨w.heap.size, 7, none⟩ = false := (hkr 7 (by simp [flc])).2
   have t8 : wr.cell? ⟨w.heap.size + 1, 8, none⟩ = some (.bool c8) := (hkt 8 (by simp [flc])).1
   have r8 : wr.cell? ⟨w.heap.size, 8, none⟩ = some (.bool false) := (hkr 8 (by simp [flc])).1
   have z8 : wr.frozen? ⟨w.heap.size, 8, none⟩ = false := (hkr 8 (by simp [flc])).2
   have t9 : wr.cell? ⟨w.heap.size + 1, 9, none⟩ = some (.bool c9) := (hkt 9 (by simp [flc])).1
   have r9 : wr.cell? ⟨w.heap.size, 9, none⟩ = some (.bool false) := (hkr 9 (by simp [flc])).1
   have z9 : wr.frozen? ⟨w.heap.size, 9, none⟩ = false := (hkr 9 (by simp [flc])).2
   have t10 : wr.cell? ⟨w.heap.size + 1, 10, none⟩ = some (.bool c10) := (hkt 10 (by simp [flc])).1
   have r10 : wr.cell? ⟨w.heap.size, 10, none⟩ = some (.bool false) := (hkr 10 (by simp [flc])).1
   have z10 : wr.frozen? ⟨w.heap.size, 10, none⟩ = false := (hkr 10 (by simp [flc])).2
   have t11 : wr.cell? ⟨w.heap.size + 1, 11, none⟩ = some (.bool c11) := (hkt 11 (by simp [flc])).1
   have r11 : wr.cell? ⟨w.heap.size, 11, none⟩ = some (.bool false) := (hkr 11 (by simp [flc])).1
   have z11 : wr.frozen? ⟨w.heap.size, 11, none⟩ = false := (hkr 11 (by simp [flc])).2
   have t12 : wr.cell? ⟨w.heap.size + 1, 12, none⟩ = some (.bool c12) := (hkt 12 (by simp [flc])).1
   have r12 : wr.cell? ⟨w.heap.size, 12, none⟩ = some (.bool false) := (hkr 12 (by simp [flc])).1
   have z12 : wr.frozen? ⟨w.heap.size, 12, none⟩ = false := (hkr 12 (by simp [flc])).2
   have t13 : wr.cell? ⟨w.heap.size + 1, 13, none⟩ = some (.bool c13) := (hkt 13 (by simp [flc])).1
   have r13 : wr.cell? ⟨w.heap.size, 13, none⟩ = some (.bool false) := (hkr 13 (by simp [flc])).1
   have z13 : wr.frozen? ⟨w.heap.size, 13, none⟩ = false := (hkr 13 (by simp [flc])).2
   have t14 : wr.cell? ⟨w.heap.size + 1, 14, none⟩ = some (.bool c14) := (hkt 14 (by simp [flc])).1
   have r14 : wr.cell? ⟨w.heap.size, 14, none⟩ = some (.bool false) := (hkr 14 (by simp [flc])).1
   have z14 : wr.frozen? ⟨w.heap.size, 14, none⟩ = false := (hkr 14 (by simp [flc])).2
   have t15 : wr.cell? ⟨w.heap.size + 1, 15, none⟩ = some (.bool c15) := (hkt 15 (by simp [flc])).1
   have r15 : wr.cell? ⟨w.heap.size, 15, none⟩ = some (.bool false) := (hkr 15 (by simp [flc])).1
   have z15 : wr.frozen? ⟨w.heap.size, 15, none⟩ = false := (hkr 15 (by simp [flc])).2
   clear hG hbel hkr hkt HR
   go_wp2_with fail
   refine bodyPost_ret (v := .agg #[.bool c0, .bool c1, .bool c2, .bool c3, .bool c4, .bool c5, .bool c6, .bool c7, .bool c8, .bool c9, .bool c10, .bool c11, .bool c12, .bool c13, .bool c14, .bool c15]) (by simp [results, Tryz.results114, go_sem, r0, r1, r2, r3, r4, r5, r6, r7, r8, r9, r10, r11, r12, r13, r14, r15]) rfl ?_
   exact ⟨by rw [unhide HV], unhide HBE⟩
  obtain ⟨b, off, rfl, hcl⟩ := (HR.out.mono (by omega) PairV.len hbel).2 k hlt
  have HTK := hide (take_snoc ps k (by rw [HR.out.1]; exact hlt))
  generalize ps.getD k default = q at hcl HTK
  have d0 : wr.cell? ⟨b, off + k * 2, none⟩ = some (.int .i64 q.a) := hcl 0 (by omega)
  have d1 : wr.cell? ⟨b, off + k * 2 + 1, none⟩ = some (.int .i64 q.b) := hcl 1 (by omega)
  have B1 : Hid (Below w.heap.size w (wr.alloc (.cells #[.int .i64 q.a, .int .i64 q.b] 92))) := hbel.alloc hbel.size _
  have KR := hide (hkr.allocOld (by omega) (.cells #[.int .i64 q.a, .int .i64 q.b] 92))
  have KT := hide (hkt.allocOld (by omega) (.cells #[.int .i64 q.a, .int .i64 q.b] 92))
  have KP : Hid (Blk (wr.alloc (.cells #[.int .i64 q.a, .int .i64 q.b] 92)) wr.heap.size (PairV.cells q)) := Blk.allocAt (PairV.cells q) rfl
  have hz2 : w.heap.size + 1 < (wr.alloc (.cells #[.int .i64 q.a, .int .i64 q.b] 92)).heap.size := by simp; omega
  have B0 := hide hbel
  have KR0 := hide hkr
  have KT0 := hide hkt
  clear hcl hbel hkr hkt
  cases g1 : inB q.a 0 ((c : Int) - 1)
  case false =>
   have HSK := hide (flags_skip (ps.take k) q c (by rw [inB_no] at g1; omega))
   go_wp2_with (first | (go_at_call 73; refine (within_any _ _ _ _).mono ?_; rintro e w' ⟨rfl, rfl⟩; rw [g1]) | fail)
   go_roundw
   case rel => exact ⟨k + 1, by omega, by go_num, unhide B1, unhide KR, by rw [unhide HTK, unhide HSK]; exact unhide KT, hz2⟩
   case measure => simp [intOf]; omega
  cases g2 : inB q.b 0 ((c : Int) - 1)
  case false =>
   have HSK := hide (flags_skip (ps.take k) q c (by rw [inB_no] at g2; omega))
   go_wp2_with (first | (go_at_call 73; refine (within_any _ _ _ _).mono ?_; rintro e w' ⟨rfl, rfl⟩; first | rw [g1] | rw [g2]) | fail)
   go_roundw
   case rel => exact ⟨k + 1, by omega, by go_num, unhide B1, unhide KR, by rw [unhide HTK, unhide HSK]; exact unhide KT, hz2⟩
   case measure => simp [intOf]; omega
  rw [inB_iff] at g1 g2
  obtain ⟨A, hA⟩ := Int.eq_ofNat_of_zero_le g1.1
  obtain ⟨B, hB⟩ := Int.eq_ofNat_of_zero_le g2.1
  have hA4 : A < c := by omega
  have hB4 : B < c := by omega
  have HH := hide (flags_hit (ps.take k) q c A B hA hB hA4 hB4 hc)
  have HTK2 := hide (HTK.out)
  have HPC : Hid (PairV.cells q = [.int .i64 (A : Int), .int .i64 (B : Int)]) := hide (by unfold PairV.cells; rw [hA, hB])
  rw [hA] at d0 B1 KR KT KP hz2
  rw [hB] at d1 B1 KR KT KP hz2
  have i1 : inB (A : Int) 0 ((c : Int) - 1) = true := by rw [inB_iff]; omega
  have i2 : inB (B : Int) 0 ((c : Int) - 1) = true := by rw [inB_iff]; omega
  have kp := unhide KP
  rw [unhide HPC] at kp
  have p0 : (wr.alloc (.cells #[.int .i64 (A : Int), .int .i64 (B : Int)] 92)).cell? ⟨wr.heap.size, 0, none⟩ = some (.int .i64 (A : Int)) := (kp 0 (by simp)).1
  have p1 : (wr.alloc (.cells #[.int .i64 (A : Int), .int .i64 (B : Int)] 92)).cell? ⟨wr.heap.size, 1, none⟩ = some (.int .i64 (B : Int)) := (kp 1 (by simp)).1
  obtain ⟨s0, s1⟩ := KT.out.flag (A * 4 + B) (by rw [flagsOf_len]; omega)
  have HB2 : Hid (Below w.heap.size w ((wr.setCell ⟨w.heap.size + 1, A * 4 + B, none⟩ (.bool true)).alloc (.cells #[.int .i64 (A : Int), .int .i64 (B : Int)] 92))) := (B0.out.setCell (by show w.heap.size ≤ w.heap.size + 1; omega) _).alloc (by simp; omega) _
  have KR2 := hide ((KR0.out.other (g' := w.heap.size + 1) (j := A * 4 + B) (v := .bool true) (by omega)).allocOld (by simp; omega) (.cells #[.int .i64 (A : Int), .int .i64 (B : Int)] 92))
  have KT2 : Hid (Blk ((wr.setCell ⟨w.heap.size + 1, A * 4 + B, none⟩ (.bool true)).alloc (.cells #[.int .i64 (A : Int), .int .i64 (B : Int)] 92)) (w.heap.size + 1) (flc (flagsOf (ps.take (k + 1)) c))) := by
   rw [unhide HTK2, unhide HH, ← flc_set]
   exact (KT0.out.set (by rw [flc_len, flagsOf_len]; omega)).allocOld (by simp; omega) _
  have hz3 : w.heap.size + 1 < ((wr.setCell ⟨w.heap.size + 1, A * 4 + B, none⟩ (.bool true)).alloc (.cells #[.int .i64 (A : Int), .int .i64 (B : Int)] 92)).heap.size := by simp; omega
  generalize fl (flagsOf (ps.take k) c) (A * 4 + B) = old at s0
  clear g1 g2 hA hB HH HTK HTK2 HPC B1 KR KT KP kp B0 KR0 KT0
  go_wp2_with (first | (go_at_call 73; refine (within_any _ _ _ _).mono ?_; rintro e w' ⟨rfl, rfl⟩; first | rw [i1] | rw [i2]) | fail)
  go_region
  all_goals
   go_wp2_with fail
   go_roundw
   case rel => exact ⟨k + 1, by omega, by go_num, HB2.out.drew, unhide KR2, unhide KT2, hz3⟩
   case measure => simp [intOf]; omega
end Go.Proofs.YtcblpoeeembniabGreatDoor

/- impl.TableOk and spec.TableOk, and the law. -/
namespace Go.Proofs.YtcblpoeeembniabGreatDoor
open Go.RowKit
set_option linter.unusedVariables false
set_option linter.unusedSimpArgs false
set_option maxRecDepth 4000 in
theorem flagFacts {w : World} {g : Nat} {c0 c1 c2 c3 c4 c5 c6 c7 c8 c9 c10 c11 c12 c13 c14 c15 : Bool} (h : Blk w g (flc [c0, c1, c2, c3, c4, c5, c6, c7, c8, c9, c10, c11, c12, c13, c14, c15])) : w.cell? ⟨g, 0, none⟩ = some (.bool c0) ∧ w.cell? ⟨g, 1, none⟩ = some (.bool c1) ∧ w.cell? ⟨g, 2, none⟩ = some (.bool c2) ∧ w.cell? ⟨g, 3, none⟩ = some (.bool c3) ∧ w.cell? ⟨g, 4, none⟩ = some (.bool c4) ∧ w.cell? ⟨g, 5, none⟩ = some (.bool c5) ∧ w.cell? ⟨g, 6, none⟩ = some (.bool c6) ∧ w.cell? ⟨g, 7, none⟩ = some (.bool c7) ∧ w.cell? ⟨g, 8, none⟩ = some (.bool c8) ∧ w.cell? ⟨g, 9, none⟩ = some (.bool c9) ∧ w.cell? ⟨g, 10, none⟩ = some (.bool c10) ∧ w.cell? ⟨g, 11, none⟩ = some (.bool c11) ∧ w.cell? ⟨g, 12, none⟩ = some (.bool c12) ∧ w.cell? ⟨g, 13, none⟩ = some (.bool c13) ∧ w.cell? ⟨g, 14, none⟩ = some (.bool c14) ∧ w.cell? ⟨g, 15, none⟩ = some (.bool c15) :=
 ⟨(h 0 (by simp [flc])).1, (h 1 (by simp [flc])).1, (h 2 (by simp [flc])).1, (h 3 (by simp [flc])).1, (h 4 (by simp [flc])).1, (h 5 (by simp [flc])).1, (h 6 (by simp [flc])).1, (h 7 (by simp [flc])).1, (h 8 (by simp [flc])).1, (h 9 (by simp [flc])).1, (h 10 (by simp [flc])).1, (h 11 (by simp [flc])).1, (h 12 (by simp [flc])).1, (h 13 (by simp [flc])).1, (h 14 (by simp [flc])).1, (h 15 (by simp [flc])).1⟩
theorem load_yields {P : Program} {o : Oper} {a : Act} {w : World} {ty : TypeId} {x : Operand} {ad : Addr} {v : Value} (ho : o.op = .load ty x) (hx : a.eval x = .pointer (some ad)) (hl : (loadVar ty ad).run P w = .ok v w) : (execOp a.eval o).run P w = .ok (.value v) w := by
 unfold execOp
 simp only [ho, hx, Instr.loadAt, Instr.sureAddr, Sem.run_bind, Sem.run_pure, Result.andThen_ok, hl]
theorem flc_lit (c0 c1 c2 c3 c4 c5 c6 c7 c8 c9 c10 c11 c12 c13 c14 c15 : Bool) : (flc [c0, c1, c2, c3, c4, c5, c6, c7, c8, c9, c10, c11, c12, c13, c14, c15]).toArray = #[.bool c0, .bool c1, .bool c2, .bool c3, .bool c4, .bool c5, .bool c6, .bool c7, .bool c8, .bool c9, .bool c10, .bool c11, .bool c12, .bool c13, .bool c14, .bool c15] := rfl
theorem turnL_lit (c0 c1 c2 c3 c4 c5 c6 c7 c8 c9 c10 c11 c12 c13 c14 c15 : Bool) : turnL [c0, c1, c2, c3, c4, c5, c6, c7, c8, c9, c10, c11, c12, c13, c14, c15] = [c0, c4, c8, c12, c1, c5, c9, c13, c2, c6, c10, c14, c3, c7, c11, c15] := by simp [turnL, List.range, List.range.loop, fl]
theorem turned_lit (c0 c1 c2 c3 c4 c5 c6 c7 c8 c9 c10 c11 c12 c13 c14 c15 : Bool) (W : World) : Calls Tryz.prog 115 #[.agg #[.bool c0, .bool c1, .bool c2, .bool c3, .bool c4, .bool c5, .bool c6, .bool c7, .bool c8, .bool c9, .bool c10, .bool c11, .bool c12, .bool c13, .bool c14, .bool c15]] W fun e w' => e = .returned (.agg #[.bool c0, .bool c4, .bool c8, .bool c12, .bool c1, .bool c5, .bool c9, .bool c13, .bool c2, .bool c6, .bool c10, .bool c14, .bool c3, .bool c7, .bool c11, .bool c15]) ∧ Below W.heap.size W w' := by
 have h := turned_any [c0, c1, c2, c3, c4, c5, c6, c7, c8, c9, c10, c11, c12, c13, c14, c15] rfl W
 rw [turnL_lit, flc_lit, flc_lit] at h
 exact h
theorem itself_lit (c0 c1 c2 c3 c4 c5 c6 c7 c8 c9 c10 c11 c12 c13 c14 c15 : Bool) (m : Nat) (hm : m ≤ 4) (W : World) : Calls Tryz.prog 116 #[.agg #[.bool c0, .bool c1, .bool c2, .bool c3, .bool c4, .bool c5, .bool c6, .bool c7, .bool c8, .bool c9, .bool c10, .bool c11, .bool c12, .bool c13, .bool c14, .bool c15], .int .i64 (m : Int)] W fun e w' => e = .returned (.bool (selfB [c0, c1, c2, c3, c4, c5, c6, c7, c8, c9, c10, c11, c12, c13, c14, c15] m)) ∧ Below W.heap.size W w' := by
 have h := withItself_any [c0, c1, c2, c3, c4, c5, c6, c7, c8, c9, c10, c11, c12, c13, c14, c15] rfl m hm W
 rw [flc_lit] at h
 exact h
set_option maxHeartbeats 4000000 in
theorem tableOk_any (a : Option Addr) (n cp : Nat) (ps : List PairV) (c : Int) (w : World) (hr : RdR PairV.cells 2 w a n ps) (hn : n ≤ 1048600) :
 Calls Tryz.prog 88 #[.slice a n cp, .int .i64 c] w fun e w' => e = .returned (.bool (tableB ps c)) ∧ Below w.heap.size w w' := by
 cases hin : inB c 1 4
 case false =>
  have HT : Hid (tableB ps c = false) := table_out ps c hin
  go_enter Tryz.func88, Tryz.ntmps88
  go_wp2_with (first | (go_at_call 73; refine (within_any _ _ _ _).mono ?_; rintro e w' ⟨rfl, hw⟩; subst w'; rw [hin]) | fail)
  go_ret
  exact ⟨ret_bool HT.out.symm, Below.refl _ _⟩
 have hin2 := hin
 rw [inB_iff] at hin2
 obtain ⟨m, rfl⟩ := Int.eq_ofNat_of_zero_le (show 0 ≤ c by omega)
 have HTab := hide (table_flags ps m (by omega) (by omega))
 obtain ⟨c0, c1, c2, c3, c4, c5, c6, c7, c8, c9, c10, c11, c12, c13, c14, c15, hF⟩ := sixteen (flagsOf ps m) (flagsOf_len ps m)
 have HT := hide (fun w => tableOf_any a n cp ps m (by omega) (by omega) w)
 rw [hF, turnL_lit] at HTab
 rw [hF, flc_lit] at HT
 clear hF
 have HU := hide (turned_lit c0 c1 c2 c3 c4 c5 c6 c7 c8 c9 c10 c11 c12 c13 c14 c15)
 have HI := hide (itself_lit c0 c1 c2 c3 c4 c5 c6 c7 c8 c9 c10 c11 c12 c13 c14 c15 m (by omega))
 have HQ := HTab
 clear HTab
 generalize hss : sameF [c0, c1, c2, c3, c4, c5, c6, c7, c8, c9, c10, c11, c12, c13, c14, c15] [c0, c4, c8, c12, c1, c5, c9, c13, c2, c6, c10, c14, c3, c7, c11, c15] = ss at HQ
 have hEQ : ∀ W, (Op.equalIn 10000 162 (.agg #[.bool c0, .bool c1, .bool c2, .bool c3, .bool c4, .bool c5, .bool c6, .bool c7, .bool c8, .bool c9, .bool c10, .bool c11, .bool c12, .bool c13, .bool c14, .bool c15]) (.agg #[.bool c0, .bool c4, .bool c8, .bool c12, .bool c1, .bool c5, .bool c9, .bool c13, .bool c2, .bool c6, .bool c10, .bool c14, .bool c3, .bool c7, .bool c11, .bool c15])).run Tryz.prog W = .ok ss W := fun W => by rw [eq_table, hss]
 clear hss
 go_enter Tryz.func88, Tryz.ntmps88
 go_wp2_with (first | (go_at_call 73; refine (within_any _ _ _ _).mono ?_; rintro e w' ⟨rfl, hw⟩; subst w'; rw [hin]) | fail)
 refine (HT.out w hr hn).mono ?_
 rintro e w1 ⟨rfl, hb1⟩
 have K1 : Hid (Blk (w1.alloc (.cells #[.bool c0, .bool c1, .bool c2, .bool c3, .bool c4, .bool c5, .bool c6, .bool c7, .bool c8, .bool c9, .bool c10, .bool c11, .bool c12, .bool c13, .bool c14, .bool c15] 162)) w1.heap.size (flc [c0, c1, c2, c3, c4, c5, c6, c7, c8, c9, c10, c11, c12, c13, c14, c15])) := Blk.allocAt (flc [c0, c1, c2, c3, c4, c5, c6, c7, c8, c9, c10, c11, c12, c13, c14, c15]) rfl
 have B1 : Hid (Below w.heap.size w (w1.alloc (.cells #[.bool c0, .bool c1, .bool c2, .bool c3, .bool c4, .bool c5, .bool c6, .bool c7, .bool c8, .bool c9, .bool c10, .bool c11, .bool c12, .bool c13, .bool c14, .bool c15] 162))) := hb1.alloc hb1.size _
 have z1 : w1.heap.size < (w1.alloc (.cells #[.bool c0, .bool c1, .bool c2, .bool c3, .bool c4, .bool c5, .bool c6, .bool c7, .bool c8, .bool c9, .bool c10, .bool c11, .bool c12, .bool c13, .bool c14, .bool c15] 162)).heap.size := by simp
 clear hb1 HT
 go_wp2_with fail
 have S0 : (w1.alloc (.cells #[.bool c0, .bool c1, .bool c2, .bool c3, .bool c4, .bool c5, .bool c6, .bool c7, .bool c8, .bool c9, .bool c10, .bool c11, .bool c12, .bool c13, .bool c14, .bool c15] 162)).drew.heap[w1.heap.size]? = some (.cells #[.bool c0, .bool c1, .bool c2, .bool c3, .bool c4, .bool c5, .bool c6, .bool c7, .bool c8, .bool c9, .bool c10, .bool c11, .bool c12, .bool c13, .bool c14, .bool c15] 162 (0, 0)) := heap_alloc_new w1 _
 have hAs : (#[.bool c0, .bool c1, .bool c2, .bool c3, .bool c4, .bool c5, .bool c6, .bool c7, .bool c8, .bool c9, .bool c10, .bool c11, .bool c12, .bool c13, .bool c14, .bool c15] : Array Value).size = 16 := rfl
 generalize w1.heap.size = P at K1 z1 S0 ⊢
 generalize w1.alloc (.cells #[.bool c0, .bool c1, .bool c2, .bool c3, .bool c4, .bool c5, .bool c6, .bool c7, .bool c8, .bool c9, .bool c10, .bool c11, .bool c12, .bool c13, .bool c14, .bool c15] 162) = W1 at K1 B1 z1 S0 ⊢
 clear K1
 generalize (#[.bool c0, .bool c4, .bool c8, .bool c12, .bool c1, .bool c5, .bool c9, .bool c13, .bool c2, .bool c6, .bool c10, .bool c14, .bool c3, .bool c7, .bool c11, .bool c15] : Array Value) = BB at HU hEQ ⊢
 generalize (#[.bool c0, .bool c1, .bool c2, .bool c3, .bool c4, .bool c5, .bool c6, .bool c7, .bool c8, .bool c9, .bool c10, .bool c11, .bool c12, .bool c13, .bool c14, .bool c15] : Array Value) = AA at HU HI hEQ S0 hAs ⊢
 have hLd : ∀ W : World, W.heap[P]? = some (.cells AA 162 (0, 0)) → (loadVar 162 ⟨P, 0, none⟩).run Tryz.prog W = .ok (.agg AA) W := fun W h => run_loadVar_row W P 162 162 AA (0, 0) _ h Tryz.underlying162 rfl (by rw [hAs]; kernel_rfl)
 refine wp_region_to (S := fun w' => w'.heap[P]? = some (.cells AA 162 (0, 0))) (T := []) (by kernel_rfl) S0 (fun hHeld => ?_)
 refine wpTo_take (i := 0) (v := .agg AA) rfl (by kernel_rfl) (by kernel_rfl) (by kernel_rfl) (by kernel_rfl) (by kernel_rfl) (fun _ _ _ h => h) (Or.inl ⟨by rfl, fun w hSw => load_yields rfl rfl (hLd w hSw)⟩) (by assumption) ?_
 try simp only [Act.put, zz1, zz2, zz3, zz4, zz5, zz6]
 refine wpTo_take (i := 1) (v := .agg AA) rfl (by kernel_rfl) (by kernel_rfl) (by kernel_rfl) (by kernel_rfl) (by kernel_rfl) (fun _ _ _ h => h) (Or.inl ⟨by rfl, fun w hSw => load_yields rfl rfl (hLd w hSw)⟩) (by assumption) ?_
 try simp only [Act.put, zz1, zz2, zz3, zz4, zz5, zz6]
 refine wpTo_ready (rs := [2]) (by kernel_rfl) (by simp) ?_
 refine AllTo.cons (o := _) rfl (fun K hK => ?_) AllTo.nil
 (try simp only [zz1, zz2, zz3])
 go_simp
 refine (HU.out _).mono ?_
 rintro e w3 ⟨rfl, hb3⟩
 have B3 := hide (B1.out.drew.trans (hb3.mono B1.out.size))
 have hS3 : w3.heap[P]? = some (.cells AA 162 (0, 0)) := (hb3.block P z1).trans hHeld
 have z3 : P < w3.heap.size := Nat.lt_of_lt_of_le z1 hb3.size
 clear hb3 hHeld S0
 go_wp2_with fail
 refine hK.out _ _ (fun _ => hS3) ?_
 clear hK K
 try simp only [Act.put, zz1, zz2, zz3, zz4, zz5, zz6]
 cases ss
 case false =>
  refine wpTo_tk (i := 3) (v := ?_) rfl (by kernel_rfl) (Or.inl ⟨by rfl, ?_⟩) (by assumption) ?_
  rotate_left
  · intro w hSw
    go_simp <;> with_reducible rfl
  refine wpTo_tk (i := 4) (v := ?_) rfl (by kernel_rfl) (Or.inl ⟨by rfl, ?_⟩) (by assumption) ?_
  rotate_left
  · intro w hSw
    go_simp <;> with_reducible rfl
  try simp only [Act.put, zz1, zz2, zz3, zz4, zz5, zz6]
  refine wpTo_tk (i := 5) (v := undef) rfl (by kernel_rfl) (Or.inr ⟨by rfl, rfl⟩) (by assumption) ?_
  try simp only [Act.put, zz1, zz2, zz3, zz4, zz5, zz6]
  refine wpTo_tk (i := 6) (v := undef) rfl (by kernel_rfl) (Or.inr ⟨by rfl, rfl⟩) (by assumption) ?_
  try simp only [Act.put, zz1, zz2, zz3, zz4, zz5, zz6]
  refine wpTo_tk (i := 7) (v := undef) rfl (by kernel_rfl) (Or.inr ⟨by rfl, rfl⟩) (by assumption) ?_
  try simp only [Act.put, zz1, zz2, zz3, zz4, zz5, zz6]
  refine wpTo_tk (i := 8) (v := ?_) rfl (by kernel_rfl) (Or.inl ⟨by rfl, ?_⟩) (by assumption) ?_
  rotate_left
  · intro w hSw
    go_simp <;> with_reducible rfl
  refine wpTo_tk (i := 9) (v := ?_) rfl (by kernel_rfl) (Or.inl ⟨by rfl, ?_⟩) (by assumption) ?_
  rotate_left
  · intro w hSw
    go_simp <;> with_reducible rfl
  try simp only [Act.put, zz1, zz2, zz3, zz4, zz5, zz6]
  refine wpTo_done (by kernel_rfl) ?_ _
  go_wp2_with fail
  go_ret
  exact ⟨ret_bool HQ.out, unhide B3⟩
 case true =>
  refine wpTo_tk (i := 3) (v := ?_) rfl (by kernel_rfl) (Or.inl ⟨by rfl, ?_⟩) (by assumption) ?_
  rotate_left
  · intro w hSw
    go_simp <;> with_reducible rfl
  try simp only [Act.put, zz1, zz2, zz3, zz4, zz5, zz6]
  refine wpTo_tk (i := 4) (v := ?_) rfl (by kernel_rfl) (Or.inl ⟨by rfl, ?_⟩) (by assumption) ?_
  rotate_left
  · intro w hSw
    go_simp <;> with_reducible rfl
  try simp only [Act.put, zz1, zz2, zz3, zz4, zz5, zz6]
  refine wpTo_take (i := 5) (v := .agg AA) rfl (by kernel_rfl) (by kernel_rfl) (by kernel_rfl) (by kernel_rfl) (by kernel_rfl) (fun _ _ _ h => h) (Or.inl ⟨by rfl, fun w hSw => load_yields rfl rfl (hLd w hSw)⟩) (by assumption) ?_
  try simp only [Act.put, zz1, zz2, zz3, zz4, zz5, zz6]
  refine wpTo_tk (i := 6) (v := ?_) rfl (by kernel_rfl) (Or.inl ⟨by rfl, ?_⟩) (by assumption) ?_
  rotate_left
  · intro w hSw
    go_simp <;> with_reducible rfl
  try simp only [Act.put, zz1, zz2, zz3, zz4, zz5, zz6]
  refine wpTo_ready (rs := [7]) (by kernel_rfl) (by simp) ?_
  refine AllTo.cons (o := _) rfl (fun K hK => ?_) AllTo.nil
  (try simp only [zz1, zz2, zz3])
  go_simp
  refine (HI.out _).mono ?_
  rintro e w4 ⟨rfl, hb4⟩
  have B4 := hide (B3.out.trans (hb4.mono B3.out.size))
  have hS4 : w4.heap[P]? = some (.cells AA 162 (0, 0)) := (hb4.block P z3).trans hS3
  clear hb4
  go_wp2_with fail
  refine hK.out _ _ (fun _ => hS4) ?_
  clear hK K
  try simp only [Act.put, zz1, zz2, zz3, zz4, zz5, zz6]
  refine wpTo_tk (i := 8) (v := ?_) rfl (by kernel_rfl) (Or.inl ⟨by rfl, ?_⟩) (by assumption) ?_
  rotate_left
  · intro w hSw
    go_simp <;> with_reducible rfl
  refine wpTo_tk (i := 9) (v := ?_) rfl (by kernel_rfl) (Or.inl ⟨by rfl, ?_⟩) (by assumption) ?_
  rotate_left
  · intro w hSw
    go_simp <;> with_reducible rfl
  try simp only [Act.put, zz1, zz2, zz3, zz4, zz5, zz6]
  refine wpTo_done (by kernel_rfl) ?_ _
  go_wp2_with fail
  go_ret
  exact ⟨ret_bool HQ.out, unhide B4⟩
theorem tableRow_miss (ps : List PairV) (c : Nat) (a b : Nat) (hc : c ≤ 4) (ha : a < c) (hb : b < c) (h : ((decide (a = b) && ! besB ps a a) || (besB ps a b != besB ps b a)) = true) : tableB ps (c : Int) = false := by
 unfold tableB
 rw [Int.toNat_natCast]
 have : (List.range c).all (tableRow ps c) = false := by
  refine range_all_miss _ c a ha ?_
  unfold tableRow
  refine range_all_miss _ c b hb ?_
  rw [h]
  rfl
 rw [this, Bool.and_false]
theorem tableB_of (ps : List PairV) (c : Nat) (h1 : 1 ≤ c) (hc : c ≤ 4) (h : (List.range c).all (tableRow ps c) = true) : tableB ps (c : Int) = true := by
 unfold tableB
 rw [Int.toNat_natCast, h]
 simp
 omega
set_option maxHeartbeats 4000000 in
theorem specTableOk_any (a : Option Addr) (n cp : Nat) (ps : List PairV) (c : Int) (w : World) (hr : RdR PairV.cells 2 w a n ps) (hn : n ≤ 1048600) :
 Calls Tryz.prog 50 #[.slice a n cp, .int .i64 c] w fun e w' => e = .returned (.bool (tableB ps c)) ∧ w' = w := by
 cases hin : inB c 1 4
 case false =>
  have HT : Hid (tableB ps c = false) := table_out ps c hin
  go_enter Tryz.func50, Tryz.ntmps50
  go_wp2_with (first | (go_at_call 77; refine (l1In_any _ _ _ _).mono ?_; rintro e w' ⟨rfl, hw⟩; subst w'; rw [hin]) | fail)
  go_ret
  exact ⟨ret_bool HT.out.symm, rfl⟩
 have hin2 := hin
 rw [inB_iff] at hin2
 obtain ⟨m, rfl⟩ := Int.eq_ofNat_of_zero_le (show 0 ≤ c by omega)
 go_enter Tryz.func50, Tryz.ntmps50
 go_wp2_with (first | (go_at_call 77; refine (l1In_any _ _ _ _).mono ?_; rintro e w' ⟨rfl, hw⟩; subst w'; rw [hin]) | fail)
 go_loop [5] (fun i => ∃ k : Nat, k ≤ m ∧ i = .int .i64 k ∧ (List.range k).all (tableRow ps m) = true) (fun i => m - (intOf i).toNat)
 case atStart => exact ⟨0, Nat.zero_le _, rfl, rfl⟩
 case round =>
  obtain ⟨i, hi, rfl, hd⟩ := hrel
  have HD := hide hd
  clear hd
  by_cases hlt : i < m
  case neg =>
   obtain rfl : i = m := by omega
   have HE := hide (tableB_of ps i (by omega) (by omega) HD.out)
   go_wp2_with fail
   go_ret
   exact ⟨ret_bool HE.out.symm, rfl⟩
  go_wp2_with fail
  go_loop [6] (fun j => ∃ k : Nat, k ≤ m ∧ j = .int .i64 k ∧ (List.range k).all (fun b => ! ((decide (i = b) && ! besB ps i i) || (besB ps i b != besB ps b i))) = true) (fun i => m - (intOf i).toNat)
  case atStart => exact ⟨0, Nat.zero_le _, rfl, rfl⟩
  case round =>
   obtain ⟨j, hj, rfl, hd⟩ := hrel
   have HD2 := hide hd
   clear hd
   by_cases hlt2 : j < m
   case neg =>
    obtain rfl : j = m := by omega
    have HS := hide (range_all_step (tableRow ps j) i)
    have HE : Hid (tableRow ps j i = true) := unhide HD2
    go_wp2_with fail
    go_round
    case rel => exact ⟨i + 1, by omega, by go_num, by rw [unhide HS, unhide HD, unhide HE]; rfl⟩
    case measure => simp [intOf]; omega
   have HM := hide (tableRow_miss ps m i j (by omega) hlt hlt2)
   have HS := hide (range_all_step (fun b => ! ((decide (i = b) && ! besB ps i i) || (besB ps i b != besB ps b i))) j)
   have HC := hide (fun x y => specBeside_any a n cp ps x y w hr hn)
   by_cases hij : i = j
   · subst hij
     have hee : ((i : Int) == (i : Int)) = true := by simp
     obtain ⟨x, hx⟩ : ∃ x, besB ps (i : Int) (i : Int) = x := ⟨_, rfl⟩
     cases x
     · have HR : Hid (tableB ps (m : Int) = false) := HM.out (by rw [hx]; simp)
       go_wp2_with (first | (go_at_call 82; refine (HC.out _ _).mono ?_; rintro e w' ⟨rfl, hw⟩; subst w'; rw [hx]) | fail)
       go_ret
       exact ⟨ret_bool HR.out.symm, rfl⟩
     · have HR : Hid ((List.range (i + 1)).all (fun b => ! ((decide (i = b) && ! besB ps i i) || (besB ps i b != besB ps b i))) = true) := hide (by rw [unhide HS, unhide HD2, hx]; simp)
       go_wp2_with (first | (go_at_call 82; refine (HC.out _ _).mono ?_; rintro e w' ⟨rfl, hw⟩; subst w'; rw [hx]) | fail)
       go_round
       case rel => exact ⟨i + 1, by omega, by go_num, unhide HR⟩
       case measure => simp [intOf]; omega
   · have hee : ((i : Int) == (j : Int)) = false := by rw [beq_eq_false_iff_ne]; omega
     obtain ⟨x, hx⟩ : ∃ x, besB ps (i : Int) (j : Int) = x := ⟨_, rfl⟩
     obtain ⟨y, hy⟩ : ∃ y, besB ps (j : Int) (i : Int) = y := ⟨_, rfl⟩
     cases x <;> cases y
     case false.true | true.false =>
      have HR : Hid (tableB ps (m : Int) = false) := HM.out (by rw [hx, hy]; simp)
      go_wp2_with (first | (go_at_call 82; refine (HC.out _ _).mono ?_; rintro e w' ⟨rfl, hw⟩; subst w'; first | rw [hx] | rw [hy]) | fail)
      go_ret
      exact ⟨ret_bool HR.out.symm, rfl⟩
     all_goals
      have HR : Hid ((List.range (j + 1)).all (fun b => ! ((decide (i = b) && ! besB ps i i) || (besB ps i b != besB ps b i))) = true) := hide (by rw [unhide HS, unhide HD2, hx, hy]; simp [hij])
      go_wp2_with (first | (go_at_call 82; refine (HC.out _ _).mono ?_; rintro e w' ⟨rfl, hw⟩; subst w'; first | rw [hx] | rw [hy]) | fail)
      go_round
      case rel => exact ⟨j + 1, by omega, by go_num, unhide HR⟩
      case measure => simp [intOf]; omega
end Go.Proofs.YtcblpoeeembniabGreatDoor
