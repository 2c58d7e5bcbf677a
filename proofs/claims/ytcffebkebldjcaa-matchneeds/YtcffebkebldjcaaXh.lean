import Derived.Test.YtcffebkebldjcaaXg
import Derived.Below
import Derived.BigQuiet
import Derived.BigRegion
import Derived.ChangeAlike
import Derived.ChangeKeysEq
import Derived.ChangeSame
import Derived.DataElems
import Derived.Deep.MidRow
import Derived.Deep.QuietTactic
import Derived.Deep.RegionHeld
import Derived.Deep.RegionHeld3
import Derived.Deep.RegionLaw
import Derived.Deep.RegionLawGrows
import Derived.Deep.RegionWith
import Derived.Deep.WholeRow
import Derived.Great.BuildSlice
import Derived.Handy
import Derived.Laws.AppendOwn
import Derived.Laws.AppendOwnNone
import Derived.Laws.BitsAllLaws
import Derived.Laws.BitsLemmas
import Derived.Laws.CopyOwn
import Derived.Laws.OwnMore
import Derived.Laws.Rows
import Derived.Laws.StructEq
import Derived.Laws.Tables
import Derived.Lib.BitFns
import Derived.Lib.SmallJoins
import Derived.OpenShut
import Derived.ProofKit
import Derived.RegionTactic
import Derived.WalkKit
import Derived.WalkLawsBesides
import Derived.WalkSmall
import Derived.WalkSpells
import Derived.WideShapes
import Derived.Test.YtcffebkebldjcaaXd
import Derived.Test.YtcffebkebldjcaaXc
import Derived.Test.YtcffebkebldjcaaProg
import Derived.Test.YtcffebkebldjcaaXa
namespace Go.Proofs.Ytcffebkebldjcaa
set_option maxRecDepth 100000
section
open Go Go.RowKit
set_option linter.unusedVariables false
set_option linter.unusedSimpArgs false

/-- a header: 24 numbers of two halves -/
def isH (l : List (Nat × Nat)) : Prop := l.length = 24 ∧ ∀ p ∈ l, p.1 < 18446744073709551616 ∧ p.2 < 18446744073709551616

def hv (l : List (Nat × Nat)) : Value := .agg (wdc l).toArray

theorem isH.at {l : List (Nat × Nat)} (h : isH l) {j : Nat} {p : Nat × Nat} (hp : l[j]? = some p) : p.1 < 18446744073709551616 ∧ p.2 < 18446744073709551616 := h.2 p (List.mem_of_getElem? hp)

theorem isH.get {l : List (Nat × Nat)} (h : isH l) {j : Nat} (hj : j < 24) : ∃ x y, l[j]? = some (x, y) ∧ x < 18446744073709551616 ∧ y < 18446744073709551616 := by
  have hj' : j < l.length := by rw [h.1]; exact hj
  have e : l[j]? = some l[j] := List.getElem?_eq_getElem hj'
  exact ⟨_, _, e, h.at e⟩

theorem wdc_set : ∀ (l : List (Nat × Nat)) (j x y : Nat), ((wdc l).set (j * 2) (.int .u64 (x : Int))).set (j * 2 + 1) (.int .u64 (y : Int)) = wdc (l.set j (x, y))
  | [], j, x, y => by simp [wdc]
  | p :: l, 0, x, y => by simp [wdc]
  | p :: l, j + 1, x, y => by
    have := wdc_set l j x y
    rw [show (j + 1) * 2 = j * 2 + 1 + 1 by omega]
    simp only [wdc, List.set_cons_succ, this]

/-- a block holds a header -/
def HB (w : World) (g : Nat) (l : List (Nat × Nat)) : Prop := w.heap[g]? = some (.cells (wdc l).toArray 48)

theorem HB.lt {w : World} {g : Nat} {l : List (Nat × Nat)} (h : HB w g l) : g < w.heap.size := by
  unfold HB at h
  exact (Array.getElem?_eq_some_iff.1 h).1

theorem HB.below {w w' : World} {g B : Nat} {l : List (Nat × Nat)} (h : HB w g l) (hb : Below B w w') (hg : g < B) : HB w' g l := by
  unfold HB at *; rw [hb.block g hg]; exact h

theorem HB.later {w w' : World} {g : Nat} {l : List (Nat × Nat)} (h : HB w g l) (hb : Below w.heap.size w w') : HB w' g l := h.below hb h.lt

theorem HB.cells {w : World} {g : Nat} {l : List (Nat × Nat)} (h : HB w g l) {j x y : Nat} (hj : l[j]? = some (x, y)) :
    w.cell? ⟨g, j * 2, none⟩ = some (.int .u64 (x : Int)) ∧ w.cell? ⟨g, j * 2 + 1, none⟩ = some (.int .u64 (y : Int)) ∧ w.frozen? ⟨g, j * 2, none⟩ = false ∧ w.frozen? ⟨g, j * 2 + 1, none⟩ = false := by
  obtain ⟨c0, c1⟩ := wdc_at l j _ hj
  refine ⟨?_, ?_, ?_, ?_⟩
  · rw [cell_of_row w g _ _ 48 _ h]; simpa using c0
  · rw [cell_of_row w g _ _ 48 _ h]; simpa using c1
  · unfold HB at h; simp [World.frozen?, h]
  · unfold HB at h; simp [World.frozen?, h]

theorem HB.set {w : World} {g : Nat} {l : List (Nat × Nat)} (h : HB w g l) (j x y : Nat) :
    HB ((w.setCell ⟨g, j * 2, none⟩ (.int .u64 (x : Int))).setCell ⟨g, j * 2 + 1, none⟩ (.int .u64 (y : Int))) g (l.set j (x, y)) := by
  unfold HB at *
  have h1 := heap_setCell_same w g (j * 2) _ 48 (.int .u64 (x : Int)) h
  have h2 := heap_setCell_same _ g (j * 2 + 1) _ 48 (.int .u64 (y : Int)) h1
  rw [h2, ← wdc_set]
  simp
end

section
open Go Go.RowKit
set_option linter.unusedVariables false
set_option linter.unusedSimpArgs false

def z24 : List (Nat × Nat) := List.replicate 24 (0, 0)
end

section
open Go Go.RowKit
set_option linter.unusedVariables false
set_option linter.unusedSimpArgs false

/-- the bits that a field has -/
def cpH (j : Nat) : Nat := lowb (fbits (j : Int) - 64)

def cpL (j : Nat) : Nat := lowb (min (fbits (j : Int)) 64)

def cp (j : Nat) (p : Nat × Nat) : Nat × Nat := (p.1 &&& cpH j, p.2 &&& cpL j)
end

section
open Go Go.RowKit
set_option linter.unusedVariables false
set_option linter.unusedSimpArgs false

/-- a read may be taken first -/
theorem takeR {P : Program} {ops : Array Oper} {Q : Exit → Act → World → Prop} {S : World → Prop} {md : Region.Mode} {fuel : Nat} {listed : Array Bool} {a : Act} {w : World} {i : Nat} {oi : Oper} {v : Value} (hi : ops[i]? = some oi)
    (hs : Region.noSelect ops = true) (hf : Region.free md ops listed i = true) (hr : (Region.ready md ops listed).contains i = true)
    (d : Option Tmp) (hd : oi.dst = d) (hy : YieldsIf P ops S oi v a) (hQ : ∀ c a w, Q (.panic c) (a.put d v) w → Q (.panic c) a w) (h0 : S w)
    (h : wpAnyH P md ops Q S fuel (listed.setIfInBounds i true) (a.put d v) w) : wpAnyH P md ops Q S (fuel + 1) listed a w := by
  subst hd
  exact wpAnyH_take hi hs hf hr hQ hy h0 h
end

section
open Go Go.RowKit
set_option linter.unusedVariables false
set_option linter.unusedSimpArgs false

def h5 : List (Nat × Nat) := z24.set 5 (0, 8197)
end

section
open Go Go.RowKit
set_option linter.unusedVariables false
set_option linter.unusedSimpArgs false

/-- a block of the call's own holds these cells, whatever its type -/
def AB (w : World) (g : Nat) (ty : TypeId) (cs : List Value) : Prop := w.heap[g]? = some (.cells cs.toArray ty)

theorem AB.lt {w : World} {g : Nat} {ty : TypeId} {cs : List Value} (h : AB w g ty cs) : g < w.heap.size := (Array.getElem?_eq_some_iff.1 h).1

theorem AB.below {w w' : World} {g B : Nat} {ty : TypeId} {cs : List Value} (h : AB w g ty cs) (hb : Below B w w') (hg : g < B) : AB w' g ty cs := by
  unfold AB at *; rw [hb.block g hg]; exact h

theorem AB.later {w w' : World} {g : Nat} {ty : TypeId} {cs : List Value} (h : AB w g ty cs) (hb : Below w.heap.size w w') : AB w' g ty cs := h.below hb h.lt

theorem AB.new (w : World) (ty : TypeId) (cs : List Value) : AB (w.alloc (.cells cs.toArray ty)) w.heap.size ty cs := heap_alloc_last w _

theorem AB.alloc {w : World} {g : Nat} {ty : TypeId} {cs : List Value} (h : AB w g ty cs) (o : Obj) : AB (w.alloc o) g ty cs := h.later ((Below.refl _ _).alloc (Nat.le_refl _) _)

theorem AB.cell {w : World} {g j : Nat} {ty : TypeId} {cs : List Value} {v : Value} (h : AB w g ty cs) (hj : cs[j]? = some v) : w.cell? ⟨g, j, none⟩ = some v ∧ w.frozen? ⟨g, j, none⟩ = false := by
  refine ⟨?_, ?_⟩
  · rw [cell_of_row w g j _ ty _ h]; simpa using hj
  · unfold AB at h; simp [World.frozen?, h]

theorem AB.set {w : World} {g j : Nat} {ty : TypeId} {cs : List Value} (h : AB w g ty cs) (v : Value) : AB (w.setCell ⟨g, j, none⟩ v) g ty (cs.set j v) := by
  unfold AB at *
  rw [heap_setCell_same w g j _ ty v h]
  simp

theorem AB.far {w : World} {g f o : Nat} {ty : TypeId} {cs : List Value} (h : AB w g ty cs) (u : Value) (hne : g ≠ f) : AB (w.setCell ⟨f, o, none⟩ u) g ty cs := by
  unfold AB at *
  rw [Go.heap_setCell_other w ⟨f, o, none⟩ g u hne]; exact h

theorem AB.row {w : World} {g : Nat} {ty : TypeId} {cs cs' : List Value} (h : AB w g ty cs) : AB (w.setRow g cs'.toArray) g ty cs' := setRow_heap w g _ _ ty _ h

theorem AB.row_far {w : World} {g f : Nat} {ty : TypeId} {cs : List Value} (h : AB w g ty cs) (ds : Array Value) (hne : g ≠ f) : AB (w.setRow f ds) g ty cs := by
  unfold AB at *
  rw [Go.setRow_other w f g ds hne]; exact h

theorem below_row (w : World) (g B : Nat) (cs : Array Value) (hB : B ≤ g) : Below B w (w.setRow g cs) := by
  refine ⟨rfl, rfl, rfl, by simp, fun k hk => ?_⟩
  rw [Go.setRow_other w g k cs (by omega)]

/-- an array is loaded whole, guarded or not -/
theorem wpList_loadA {P : Program} {ty e : TypeId} {n : Nat} (hu : P.underlying ty = some (.array n e)) {ops : Array Oper} {rest : List Oper} {o : Oper} {a : Act} {w : World} {Q : Exit → Act → World → Prop} (hw : Region.wanted o (yielded ops a.tmps) = true) (x : Operand) (ho : o.op = .load ty x)
    (g : Nat) (hx : a.eval x = .pointer (some ⟨g, 0, none⟩)) (cs : List Value) (hi : (P.info? ty).map (·.size) = some cs.length) (h0 : AB w g ty cs)
    (h : wpList P ops Q rest (a.put o.dst (.agg cs.toArray)) w) : wpList P ops Q (o :: rest) a w :=
  wpList_wanted hw fun K hK => wp_load_row ty x ho g hx ty cs.toArray (0, 0) _ h0 hu rfl (by simpa using hi) (hK _ _ h)

/-- an array is stored whole, guarded or not; the world behind is told -/
theorem wpList_storeA {P : Program} {ty : TypeId} {ops : Array Oper} {rest : List Oper} {o : Oper} {a : Act} {w : World} {Q : Exit → Act → World → Prop} (hw : Region.wanted o (yielded ops a.tmps) = true) (x y : Operand) (ho : o.op = .store ty x y)
    (g : Nat) (hx : a.eval x = .pointer (some ⟨g, 0, none⟩)) (cs0 cs : List Value) (hl : cs0.length = cs.length) (hi : (P.info? ty).map (·.size) = some cs.length) (h1 : ∀ v ∈ cs, v.oneCell' = true) (hy : a.eval y = .agg cs.toArray) (h0 : AB w g ty cs0)
    (h : wpList P ops Q rest (a.put o.dst undef) (w.setRow g cs.toArray)) : wpList P ops Q (o :: rest) a w :=
  wpList_wanted hw fun K hK => wp_store_row ty x y ho g cs.toArray hx hy ty cs0.toArray h0 (by simpa using hi) (by simpa using hl) (all_oneCell_toArray h1) (hK _ _ h)

theorem results_A {P : Program} {ty e : TypeId} {n : Nat} (hu : P.underlying ty = some (.array n e)) {fn : Func} {p : Tmp} (h : fn.results = #[.cell p ty]) (tmps : Array Value) (w : World) (g : Nat) (cs : List Value) (hi : (P.info? ty).map (·.size) = some cs.length) (hp : tmps.getD p undef = .pointer (some ⟨g, 0, none⟩)) (hg : AB w g ty cs) :
    (results fn tmps).run P w = .ok (.agg cs.toArray) w :=
  results_cell_row h tmps w g ty cs.toArray (0, 0) _ hp hg hu rfl (by simpa using hi)

/-- cells of terns: four halves each -/
abbrev Q4 := Nat × Nat × Nat × Nat

def tdc : List Q4 → List Value
  | [] => []
  | p :: r => .int .u64 (p.1 : Int) :: .int .u64 (p.2.1 : Int) :: .int .u64 (p.2.2.1 : Int) :: .int .u64 (p.2.2.2 : Int) :: tdc r

theorem tdc_length : ∀ l, (tdc l).length = l.length * 4
  | [] => rfl
  | p :: r => by simp [tdc, tdc_length r]; omega

theorem tdc_one (l : List Q4) : ∀ u ∈ tdc l, u.oneCell' = true := by
  induction l with
  | nil => intro u hu; cases hu
  | cons p r ih =>
    intro u hu
    simp only [tdc, List.mem_cons] at hu
    rcases hu with rfl | rfl | rfl | rfl | hu
    · rfl
    · rfl
    · rfl
    · rfl
    · exact ih u hu

theorem tdc_drop : ∀ (l : List Q4) (j : Nat), (tdc l).drop (j * 4) = tdc (l.drop j)
  | l, 0 => by simp
  | [], j + 1 => by simp [tdc]
  | p :: l, j + 1 => by
    rw [show (j + 1) * 4 = j * 4 + 1 + 1 + 1 + 1 by omega]
    simp only [tdc, List.drop_succ_cons]
    exact tdc_drop l j

theorem tdc_at (l : List Q4) (j : Nat) (p : Q4) (h : l[j]? = some p) : (tdc l)[j * 4]? = some (.int .u64 (p.1 : Int)) ∧ (tdc l)[j * 4 + 1]? = some (.int .u64 (p.2.1 : Int)) ∧ (tdc l)[j * 4 + 2]? = some (.int .u64 (p.2.2.1 : Int)) ∧ (tdc l)[j * 4 + 3]? = some (.int .u64 (p.2.2.2 : Int)) := by
  have hj : j < l.length := (List.getElem?_eq_some_iff.1 h).1
  have e : l[j] = p := (List.getElem?_eq_some_iff.1 h).2
  have hd := tdc_drop l j
  rw [List.drop_eq_getElem_cons hj, e] at hd
  have k : ∀ i, (tdc l)[j * 4 + i]? = (tdc (p :: l.drop (j + 1)))[i]? := fun i => by rw [← hd, List.getElem?_drop]
  exact ⟨by simpa [tdc] using k 0, by simpa [tdc] using k 1, by simpa [tdc] using k 2, by simpa [tdc] using k 3⟩

theorem tdc_set : ∀ (l : List Q4) (j a b c d : Nat), ((((tdc l).set (j * 4) (.int .u64 (a : Int))).set (j * 4 + 1) (.int .u64 (b : Int))).set (j * 4 + 2) (.int .u64 (c : Int))).set (j * 4 + 3) (.int .u64 (d : Int)) = tdc (l.set j (a, b, c, d))
  | [], j, a, b, c, d => by simp [tdc]
  | p :: l, 0, a, b, c, d => by simp [tdc]
  | p :: l, j + 1, a, b, c, d => by
    have := tdc_set l j a b c d
    rw [show (j + 1) * 4 = j * 4 + 1 + 1 + 1 + 1 by omega]
    simp only [tdc, List.set_cons_succ, this]

theorem ext4 (l : List Q4) (j : Nat) (p : Q4) (h : l[j]? = some p) : (tdc l).toArray.extract (j * 4) (j * 4 + 4) = #[.int .u64 (p.1 : Int), .int .u64 (p.2.1 : Int), .int .u64 (p.2.2.1 : Int), .int .u64 (p.2.2.2 : Int)] := by
  have hj : j < l.length := (List.getElem?_eq_some_iff.1 h).1
  have e : l[j] = p := (List.getElem?_eq_some_iff.1 h).2
  rw [List.extract_toArray, List.extract_eq_take_drop, tdc_drop, List.drop_eq_getElem_cons hj, e]
  have e2 : j * 4 + 4 - j * 4 = 4 := by omega
  rw [e2]
  simp [tdc]
end

section
open Go Go.RowKit
set_option linter.unusedVariables false
set_option linter.unusedSimpArgs false

/-- a tern: four halves -/
def td (a b c d : Nat) : Value := .agg #[.int .u64 (a : Int), .int .u64 (b : Int), .int .u64 (c : Int), .int .u64 (d : Int)]

theorem AB.four {w : World} {g : Nat} {ty : TypeId} {a b c d : Value} (h : AB w g ty [a, b, c, d]) : w.cell? ⟨g, 0, none⟩ = some a ∧ w.cell? ⟨g, 1, none⟩ = some b ∧ w.cell? ⟨g, 2, none⟩ = some c ∧ w.cell? ⟨g, 3, none⟩ = some d ∧ w.frozen? ⟨g, 0, none⟩ = false ∧ w.frozen? ⟨g, 1, none⟩ = false ∧ w.frozen? ⟨g, 2, none⟩ = false ∧ w.frozen? ⟨g, 3, none⟩ = false :=
  ⟨(h.cell (j := 0) rfl).1, (h.cell (j := 1) rfl).1, (h.cell (j := 2) rfl).1, (h.cell (j := 3) rfl).1, (h.cell (j := 0) rfl).2, (h.cell (j := 1) rfl).2, (h.cell (j := 2) rfl).2, (h.cell (j := 3) rfl).2⟩

theorem AB.two {w : World} {g : Nat} {ty : TypeId} {a b : Value} (h : AB w g ty [a, b]) : w.cell? ⟨g, 0, none⟩ = some a ∧ w.cell? ⟨g, 1, none⟩ = some b ∧ w.frozen? ⟨g, 0, none⟩ = false ∧ w.frozen? ⟨g, 1, none⟩ = false :=
  ⟨(h.cell (j := 0) rfl).1, (h.cell (j := 1) rfl).1, (h.cell (j := 0) rfl).2, (h.cell (j := 1) rfl).2⟩

/-- a block that was laid stays, as it was, where more is laid -/
theorem AB.at0 (w : World) (t : TypeId) (cs : List Value) : AB (w.alloc (.cells cs.toArray t)) w.heap.size t cs := AB.new w t cs

theorem AB.at1 (w : World) (o : Obj) (t : TypeId) (cs : List Value) : AB ((w.alloc o).alloc (.cells cs.toArray t)) (w.heap.size + 1) t cs := by
  have := AB.new (w.alloc o) t cs
  simpa using this

theorem below1 (w : World) (o : Obj) : Below w.heap.size w (w.alloc o) := (Below.refl _ _).alloc (Nat.le_refl _) _

theorem below2 (w : World) (o o' : Obj) : Below w.heap.size w ((w.alloc o).alloc o') := (below1 w o).alloc (by simp) _

theorem keepH {g f : Nat} {i0 i1 i2 i3 j0 j1 : Nat} {w0 wa wb : World} {x0 x1 x2 x3 y0 y1 : Value} (k : Below wa.heap.size wa wb) (h : wa.cell? ⟨g, i0, none⟩ = some x0 ∧ wa.cell? ⟨g, i1, none⟩ = some x1 ∧ wa.cell? ⟨g, i2, none⟩ = some x2 ∧ wa.cell? ⟨g, i3, none⟩ = some x3 ∧ wa.cell? ⟨f, j0, none⟩ = some y0 ∧ wa.cell? ⟨f, j1, none⟩ = some y1 ∧ Below w0.heap.size w0 wa) :
    wb.cell? ⟨g, i0, none⟩ = some x0 ∧ wb.cell? ⟨g, i1, none⟩ = some x1 ∧ wb.cell? ⟨g, i2, none⟩ = some x2 ∧ wb.cell? ⟨g, i3, none⟩ = some x3 ∧ wb.cell? ⟨f, j0, none⟩ = some y0 ∧ wb.cell? ⟨f, j1, none⟩ = some y1 ∧ Below w0.heap.size w0 wb :=
  ⟨cell_later k h.1, cell_later k h.2.1, cell_later k h.2.2.1, cell_later k h.2.2.2.1, cell_later k h.2.2.2.2.1, cell_later k h.2.2.2.2.2.1, h.2.2.2.2.2.2.trans (k.mono h.2.2.2.2.2.2.size)⟩

/-- a block of four cells that may be written -/
def Room4 (w : World) (g : Nat) (ty : TypeId) : Prop := ∃ a b c d, AB w g ty [a, b, c, d]

theorem AB.room {w : World} {g : Nat} {ty : TypeId} {a b c d : Value} (h : AB w g ty [a, b, c, d]) : Room4 w g ty := ⟨a, b, c, d, h⟩

theorem Room4.later {w w' : World} {g : Nat} {ty : TypeId} (h : Room4 w g ty) (k : Below w.heap.size w w') : Room4 w' g ty := by
  obtain ⟨a, b, c, d, h⟩ := h
  exact ⟨a, b, c, d, h.later k⟩

theorem Room4.fill {w : World} {g : Nat} {ty : TypeId} (h : Room4 w g ty) (x y z u : Value) : AB ((((w.setCell ⟨g, 0, none⟩ x).setCell ⟨g, 1, none⟩ y).setCell ⟨g, 2, none⟩ z).setCell ⟨g, 3, none⟩ u) g ty [x, y, z, u] := by
  obtain ⟨a, b, c, d, h⟩ := h
  exact (((h.set (j := 0) x).set (j := 1) y).set (j := 2) z).set (j := 3) u

theorem Room4.cells {w : World} {g : Nat} {ty : TypeId} (h : Room4 w g ty) : ∃ a b c d, w.cell? ⟨g, 0, none⟩ = some a ∧ w.cell? ⟨g, 1, none⟩ = some b ∧ w.cell? ⟨g, 2, none⟩ = some c ∧ w.cell? ⟨g, 3, none⟩ = some d ∧ w.frozen? ⟨g, 0, none⟩ = false ∧ w.frozen? ⟨g, 1, none⟩ = false ∧ w.frozen? ⟨g, 2, none⟩ = false ∧ w.frozen? ⟨g, 3, none⟩ = false := by
  obtain ⟨a, b, c, d, h⟩ := h
  exact ⟨a, b, c, d, h.four⟩

theorem below_fill {w0 w : World} {g n : Nat} (h : Below n w0 w) (hg : n ≤ g) (x y z u : Value) : Below n w0 ((((w.setCell ⟨g, 0, none⟩ x).setCell ⟨g, 1, none⟩ y).setCell ⟨g, 2, none⟩ z).setCell ⟨g, 3, none⟩ u) :=
  (((h.setCell hg x).setCell hg y).setCell hg z).setCell hg u

theorem cell_fill {w : World} {g : Nat} {p : Addr} (hp : g ≠ p.block) (x y z u : Value) : ((((w.setCell ⟨g, 0, none⟩ x).setCell ⟨g, 1, none⟩ y).setCell ⟨g, 2, none⟩ z).setCell ⟨g, 3, none⟩ u).cell? p = w.cell? p := by
  have hn : ∀ i, (⟨g, i, none⟩ : Addr) ≠ p := fun i e => hp (by rw [← e])
  rw [World.cell?_setCell_other (h := hn 3), World.cell?_setCell_other (h := hn 2), World.cell?_setCell_other (h := hn 1), World.cell?_setCell_other (h := hn 0)]

theorem keepA6 {p0 p1 p2 p3 p4 p5 : Addr} {x0 x1 x2 x3 x4 x5 : Value} {w0 wa wb : World} (k : Below wa.heap.size wa wb) (h : wa.cell? p0 = some x0 ∧ wa.cell? p1 = some x1 ∧ wa.cell? p2 = some x2 ∧ wa.cell? p3 = some x3 ∧ wa.cell? p4 = some x4 ∧ wa.cell? p5 = some x5 ∧ Below w0.heap.size w0 wa) :
    wb.cell? p0 = some x0 ∧ wb.cell? p1 = some x1 ∧ wb.cell? p2 = some x2 ∧ wb.cell? p3 = some x3 ∧ wb.cell? p4 = some x4 ∧ wb.cell? p5 = some x5 ∧ Below w0.heap.size w0 wb :=
  ⟨cell_later k h.1, cell_later k h.2.1, cell_later k h.2.2.1, cell_later k h.2.2.2.1, cell_later k h.2.2.2.2.1, cell_later k h.2.2.2.2.2.1, h.2.2.2.2.2.2.trans (k.mono h.2.2.2.2.2.2.size)⟩

set_option maxRecDepth 100000 in
set_option maxHeartbeats 1000000 in
theorem thas_any (a b c d x y : Nat) (w : World) (ha : a < 18446744073709551616) (hb : b < 18446744073709551616) (hc : c < 18446744073709551616) (hd : d < 18446744073709551616) (hx : x < 18446744073709551616) (hy : y < 18446744073709551616) :
    Calls Try.prog 61 #[td a b c d, wd x y] w fun e w' => e = .returned (.bool ((a ^^^ x) &&& c == 0 && (b ^^^ y) &&& d == 0)) ∧ Below w.heap.size w w' := by
  rw [show (a ^^^ x) &&& c = c &&& (a ^^^ x) from Nat.and_comm _ _, show (b ^^^ y) &&& d = d &&& (b ^^^ y) from Nat.and_comm _ _]
  have q1 := hide_ (fun w => xor_any a b x y w ha hb hx hy)
  have q2 := hide_ (fun w => and_any c d (a ^^^ x) (b ^^^ y) w hc hd (xor_lt a x ha hx) (xor_lt b y hb hy))
  have q3 := hide_ (fun w => zero_any (c &&& (a ^^^ x)) (d &&& (b ^^^ y)) w)
  generalize c &&& (a ^^^ x) = m1 at *
  generalize d &&& (b ^^^ y) = m2 at *
  generalize a ^^^ x = n1 at *
  generalize b ^^^ y = n2 at *
  generalize (m1 == 0 && m2 == 0) = z at *
  unfold td
  unfold wd at *
  go_enter Try.func61, Try.ntmps61
  go_wp2_with fail
  go_region_held3 (fun w' => w'.cell? ⟨w.heap.size, 0, none⟩ = some (.int .u64 (a : Int)) ∧ w'.cell? ⟨w.heap.size, 1, none⟩ = some (.int .u64 (b : Int)) ∧ w'.cell? ⟨w.heap.size, 2, none⟩ = some (.int .u64 (c : Int)) ∧ w'.cell? ⟨w.heap.size, 3, none⟩ = some (.int .u64 (d : Int)) ∧ w'.cell? ⟨w.heap.size + 1, 0, none⟩ = some (.int .u64 (x : Int)) ∧ w'.cell? ⟨w.heap.size + 1, 1, none⟩ = some (.int .u64 (y : Int)) ∧ Below w.heap.size w w')
    (first | (exact keepH (by assumption) (by assumption)) | (exact ⟨by simp [go_sem], by simp [go_sem], by simp [go_sem], by simp [go_sem], by simp [go_sem], by simp [go_sem], by go_grown⟩))
    (first | (go_at_call 97; refine (q1.out _).mono ?_; rintro e w' ⟨rfl, hb⟩) | (go_at_call 96; refine (q2.out _).mono ?_; rintro e w' ⟨rfl, hb⟩) | (go_at_call 58; refine (q3.out _).mono ?_; rintro e w' ⟨rfl, hb⟩))
  rename_i hH
  have bel := hH.2.2.2.2.2.2
  clear hH
  go_wp2
  go_ret
  exact ⟨rfl, bel⟩
end

end Go.Proofs.Ytcffebkebldjcaa
