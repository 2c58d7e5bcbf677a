import Derived.Test.YtbdbehdgpmfelaaXc
import Derived.Below
import Derived.BigQuiet
import Derived.BigRegion
import Derived.ChangeAlike
import Derived.ChangeKeysEq
import Derived.ChangeSame
import Derived.DataElems
import Derived.Deep.MidRow
import Derived.Deep.QuietTactic
import Derived.Deep.RegionHeld
import Derived.Deep.RegionHeld3
import Derived.Deep.RegionLaw
import Derived.Deep.RegionLawGrows
import Derived.Deep.RegionWith
import Derived.Deep.WholeRow
import Derived.Great.BuildSlice
import Derived.Handy
import Derived.Laws.AppendOwn
import Derived.Laws.AppendOwnNone
import Derived.Laws.BitsAllLaws
import Derived.Laws.BitsLemmas
import Derived.Laws.CopyOwn
import Derived.Laws.OwnMore
import Derived.Laws.Rows
import Derived.Laws.StructEq
import Derived.Laws.Tables
import Derived.Lib.BitFns
import Derived.Lib.SmallJoins
import Derived.OpenShut
import Derived.ProofKit
import Derived.RegionTactic
import Derived.WalkKit
import Derived.WalkLawsBesides
import Derived.WalkSmall
import Derived.WalkSpells
import Derived.WideShapes
import Derived.Test.YtbdbehdgpmfelaaXb
import Derived.Test.YtbdbehdgpmfelaaProg
namespace Go.Proofs.Ytbdbehdgpmfelaa
section
open Go Go.RowKit
set_option linter.unusedVariables false
set_option linter.unusedSimpArgs false

/-- a header: 24 numbers of two halves -/
def isH (l : List (Nat × Nat)) : Prop := l.length = 24 ∧ ∀ p ∈ l, p.1 < 18446744073709551616 ∧ p.2 < 18446744073709551616

def hv (l : List (Nat × Nat)) : Value := .agg (wdc l).toArray

theorem isH.at {l : List (Nat × Nat)} (h : isH l) {j : Nat} {p : Nat × Nat} (hp : l[j]? = some p) : p.1 < 18446744073709551616 ∧ p.2 < 18446744073709551616 := h.2 p (List.mem_of_getElem? hp)

theorem isH.get {l : List (Nat × Nat)} (h : isH l) {j : Nat} (hj : j < 24) : ∃ x y, l[j]? = some (x, y) ∧ x < 18446744073709551616 ∧ y < 18446744073709551616 := by
  have hj' : j < l.length := by rw [h.1]; exact hj
  have e : l[j]? = some l[j] := List.getElem?_eq_getElem hj'
  exact ⟨_, _, e, h.at e⟩

theorem isH.set {l : List (Nat × Nat)} (h : isH l) (j : Nat) {p : Nat × Nat} (h1 : p.1 < 18446744073709551616) (h2 : p.2 < 18446744073709551616) : isH (l.set j p) := by
  refine ⟨by simp [h.1], fun q hq => ?_⟩
  rcases List.mem_or_eq_of_mem_set hq with hq | rfl
  · exact h.2 q hq
  · exact ⟨h1, h2⟩

theorem wdc_set : ∀ (l : List (Nat × Nat)) (j x y : Nat), ((wdc l).set (j * 2) (.int .u64 (x : Int))).set (j * 2 + 1) (.int .u64 (y : Int)) = wdc (l.set j (x, y))
  | [], j, x, y => by simp [wdc]
  | p :: l, 0, x, y => by simp [wdc]
  | p :: l, j + 1, x, y => by
    have := wdc_set l j x y
    rw [show (j + 1) * 2 = j * 2 + 1 + 1 by omega]
    simp only [wdc, List.set_cons_succ, this]

/-- a block holds a header -/
def HB (w : World) (g : Nat) (l : List (Nat × Nat)) : Prop := w.heap[g]? = some (.cells (wdc l).toArray 33)

theorem HB.lt {w : World} {g : Nat} {l : List (Nat × Nat)} (h : HB w g l) : g < w.heap.size := by
  unfold HB at h
  exact (Array.getElem?_eq_some_iff.1 h).1

theorem HB.below {w w' : World} {g B : Nat} {l : List (Nat × Nat)} (h : HB w g l) (hb : Below B w w') (hg : g < B) : HB w' g l := by
  unfold HB at *; rw [hb.block g hg]; exact h

theorem HB.later {w w' : World} {g : Nat} {l : List (Nat × Nat)} (h : HB w g l) (hb : Below w.heap.size w w') : HB w' g l := h.below hb h.lt

theorem HB.cells {w : World} {g : Nat} {l : List (Nat × Nat)} (h : HB w g l) {j x y : Nat} (hj : l[j]? = some (x, y)) :
    w.cell? ⟨g, j * 2, none⟩ = some (.int .u64 (x : Int)) ∧ w.cell? ⟨g, j * 2 + 1, none⟩ = some (.int .u64 (y : Int)) ∧ w.frozen? ⟨g, j * 2, none⟩ = false ∧ w.frozen? ⟨g, j * 2 + 1, none⟩ = false := by
  obtain ⟨c0, c1⟩ := wdc_at l j _ hj
  refine ⟨?_, ?_, ?_, ?_⟩
  · rw [cell_of_row w g _ _ 33 _ h]; simpa using c0
  · rw [cell_of_row w g _ _ 33 _ h]; simpa using c1
  · unfold HB at h; simp [World.frozen?, h]
  · unfold HB at h; simp [World.frozen?, h]

theorem HB.set {w : World} {g : Nat} {l : List (Nat × Nat)} (h : HB w g l) (j x y : Nat) :
    HB ((w.setCell ⟨g, j * 2, none⟩ (.int .u64 (x : Int))).setCell ⟨g, j * 2 + 1, none⟩ (.int .u64 (y : Int))) g (l.set j (x, y)) := by
  unfold HB at *
  have h1 := heap_setCell_same w g (j * 2) _ 33 (.int .u64 (x : Int)) h
  have h2 := heap_setCell_same _ g (j * 2 + 1) _ 33 (.int .u64 (y : Int)) h1
  rw [h2, ← wdc_set]
  simp

theorem HB.far {w : World} {g f o : Nat} {l : List (Nat × Nat)} (h : HB w g l) (u : Value) (hne : g ≠ f) : HB (w.setCell ⟨f, o, none⟩ u) g l := by
  unfold HB at *
  rw [Go.heap_setCell_other w ⟨f, o, none⟩ g u hne]; exact h
end

section
open Go Go.RowKit
set_option linter.unusedVariables false
set_option linter.unusedSimpArgs false

def z24 : List (Nat × Nat) := List.replicate 24 (0, 0)

theorem z24_len : z24.length = 24 := by simp [z24]

theorem HB.zero (w : World) : HB (w.alloc (.cells #[.int .u64 0, .int .u64 0, .int .u64 0, .int .u64 0, .int .u64 0, .int .u64 0, .int .u64 0, .int .u64 0, .int .u64 0, .int .u64 0, .int .u64 0, .int .u64 0, .int .u64 0, .int .u64 0, .int .u64 0, .int .u64 0, .int .u64 0, .int .u64 0, .int .u64 0, .int .u64 0, .int .u64 0, .int .u64 0, .int .u64 0, .int .u64 0, .int .u64 0, .int .u64 0, .int .u64 0, .int .u64 0, .int .u64 0, .int .u64 0, .int .u64 0, .int .u64 0, .int .u64 0, .int .u64 0, .int .u64 0, .int .u64 0, .int .u64 0, .int .u64 0, .int .u64 0, .int .u64 0, .int .u64 0, .int .u64 0, .int .u64 0, .int .u64 0, .int .u64 0, .int .u64 0, .int .u64 0, .int .u64 0] 33)) w.heap.size z24 := heap_alloc_last w _
end

section
open Go Go.RowKit
set_option linter.unusedVariables false
set_option linter.unusedSimpArgs false

/-- the bits that a field has -/
def cpH (j : Nat) : Nat := lowb (fbits (j : Int) - 64)

def cpL (j : Nat) : Nat := lowb (min (fbits (j : Int)) 64)

def cp (j : Nat) (p : Nat × Nat) : Nat × Nat := (p.1 &&& cpH j, p.2 &&& cpL j)

def clip (l : List (Nat × Nat)) : List (Nat × Nat) := l.mapIdx cp
end

section
open Go Go.RowKit
set_option linter.unusedVariables false
set_option linter.unusedSimpArgs false

theorem info39' : ∃ i, Try.prog.info? 24 = some i ∧ i.size = 2 := by
  obtain ⟨i0, hi0, hz0, hz1, hz2⟩ := info_parts info39
  exact ⟨i0, hi0, hz1⟩

theorem cells39 : Try.prog.cellsOf 24 = 2 := by kernel_rfl

theorem agg39 (w : World) : (isAgg 24).run Try.prog w = .ok true w := by
  simp [isAgg, run_underlying Try.underlying24 w]

theorem part39 (xs : Array Value) (o : Nat) (w : World) : (part 24 xs o).run Try.prog w = .ok (.agg (xs.extract o (o + 2))) w := by
  obtain ⟨i, hi, hs⟩ := info39'
  simp [part, agg39, sizeOf, typeInfo, hi, hs]

theorem eqin39 (d : Nat) (a b c e : Nat) (w : World) : (Op.equalIn (d + 2) 24 (.agg #[.int .u64 (a : Int), .int .u64 (b : Int)]) (.agg #[.int .u64 (c : Int), .int .u64 (e : Int)])).run Try.prog w = .ok (decide ((a, b) = (c, e))) w := by
  by_cases h1 : a = c
  · subst h1
    by_cases h2 : b = e
    · subst h2
      go_simp
    · have g : (((b : Nat) : Int) == (e : Int)) = false := by simp; omega
      go_simp
  · have g : (((a : Nat) : Int) == (c : Int)) = false := by simp; omega
    go_simp

theorem wdc_drop : ∀ (l : List (Nat × Nat)) (j : Nat), (wdc l).drop (j * 2) = wdc (l.drop j)
  | l, 0 => by simp
  | [], j + 1 => by simp [wdc]
  | p :: l, j + 1 => by
    rw [show (j + 1) * 2 = j * 2 + 1 + 1 by omega]
    simp only [wdc, List.drop_succ_cons]
    exact wdc_drop l j

theorem ext39 (l : List (Nat × Nat)) (j : Nat) (p : Nat × Nat) (h : l[j]? = some p) : (wdc l).toArray.extract (j * 2) (j * 2 + 2) = #[.int .u64 (p.1 : Int), .int .u64 (p.2 : Int)] := by
  have hj : j < l.length := (List.getElem?_eq_some_iff.1 h).1
  have e : l[j] = p := (List.getElem?_eq_some_iff.1 h).2
  rw [List.extract_toArray, List.extract_eq_take_drop, wdc_drop, List.drop_eq_getElem_cons hj, e]
  have e2 : j * 2 + 2 - j * 2 = 2 := by omega
  rw [e2]
  simp [wdc]

theorem eqItems_H (l m : List (Nat × Nat)) (hl : l.length = 24) (hm : m.length = 24) (d : Nat) (w : World) : ∀ is : List Nat, (∀ i ∈ is, i < 24) →
    (Op.eqItems (d + 2) 24 2 (wdc l).toArray (wdc m).toArray is).run Try.prog w = .ok (is.all fun i => decide (l[i]? = m[i]?)) w
  | [], _ => by simp [Op.eqItems]
  | i :: is, h => by
    have hi : i < 24 := h i (by simp)
    obtain ⟨⟨a, b⟩, hp⟩ : ∃ p, l[i]? = some p := ⟨_, List.getElem?_eq_getElem (by omega)⟩
    obtain ⟨⟨c, e⟩, hq⟩ : ∃ p, m[i]? = some p := ⟨_, List.getElem?_eq_getElem (by omega)⟩
    simp only [Op.eqItems, Sem.run_bind, part39, Result.andThen_ok, ext39 l i _ hp, ext39 m i _ hq, eqin39, hp, hq]
    have ih := eqItems_H l m hl hm d w is (fun j hj => h j (by simp [hj]))
    by_cases e1 : (a, b) = (c, e)
    · rw [decide_eq_true e1]
      have e2 : decide (some (a, b) = some (c, e)) = true := by rw [e1]; simp
      simp only [Bool.not_true, Bool.false_eq_true, if_false, List.all_cons, hp, hq, e2, Bool.true_and]
      exact ih
    · rw [decide_eq_false e1]
      have e2 : decide (some (a, b) = some (c, e)) = false := by simpa using e1
      simp only [Bool.not_false, if_true, Sem.run_pure, List.all_cons, hp, hq, e2, Bool.false_and]

theorem all_same (l m : List (Nat × Nat)) (hl : l.length = 24) (hm : m.length = 24) : ((List.range 24).all fun i => decide (l[i]? = m[i]?)) = decide (l = m) := by
  by_cases h : l = m
  · subst h; simp
  · rw [decide_eq_false h, Bool.eq_false_iff]
    intro e
    apply h
    apply List.ext_getElem?
    intro i
    by_cases hi : i < 24
    · have := List.all_eq_true.1 e i (by simpa using hi)
      simpa using this
    · rw [List.getElem?_eq_none (by omega), List.getElem?_eq_none (by omega)]

theorem run_heqIn (l m : List (Nat × Nat)) (hl : l.length = 24) (hm : m.length = 24) (w : World) :
    (Op.equalIn 10000 33 (.agg (wdc l).toArray) (.agg (wdc m).toArray)).run Try.prog w = .ok (decide (l = m)) w := by
  obtain ⟨i, hi, _⟩ := info39'
  rw [run_equalIn_array w 9999 (wdc l).toArray (wdc m).toArray Try.underlying33 hi, cells39, eqItems_H l m hl hm 9997 w (List.range 24) (by simp), all_same l m hl hm]

theorem HB.range {w : World} {g : Nat} {l : List (Nat × Nat)} (h : HB w g l) : w.rangeAt g 0 (wdc l) := by
  intro j v hv
  rw [cell_of_row w g (0 + j) _ 33 _ h, Nat.zero_add]
  simpa using hv

theorem range_later {w w' : World} {g o : Nat} {cs : List Value} (h : w.rangeAt g o cs) (hb : Below w.heap.size w w') : w'.rangeAt g o cs := fun j v hv => cell_later hb (h j v hv)
end

section
open Go Go.RowKit
set_option linter.unusedVariables false
set_option linter.unusedSimpArgs false

/-- a read may be taken first -/
theorem takeR {P : Program} {ops : Array Oper} {Q : Exit → Act → World → Prop} {S : World → Prop} {md : Region.Mode} {fuel : Nat} {listed : Array Bool} {a : Act} {w : World} {i : Nat} {oi : Oper} {v : Value} (hi : ops[i]? = some oi)
    (hs : Region.noSelect ops = true) (hf : Region.free md ops listed i = true) (hr : (Region.ready md ops listed).contains i = true)
    (d : Option Tmp) (hd : oi.dst = d) (hy : YieldsIf P ops S oi v a) (hQ : ∀ c a w, Q (.panic c) (a.put d v) w → Q (.panic c) a w) (h0 : S w)
    (h : wpAnyH P md ops Q S fuel (listed.setIfInBounds i true) (a.put d v) w) : wpAnyH P md ops Q S (fuel + 1) listed a w := by
  subst hd
  exact wpAnyH_take hi hs hf hr hQ hy h0 h
end

section
open Go Go.RowKit
set_option linter.unusedVariables false
set_option linter.unusedSimpArgs false

def i64s (l : List Nat) : List Value := l.map fun (x : Nat) => Value.int .i64 (x : Int)

theorem i64s_app (l m : List Nat) : i64s (l ++ m) = i64s l ++ i64s m := by simp [i64s]

theorem info3 : (Try.prog.info? 3).map (fun i => (i.zero, i.size, i.bytes)) = some (some (.int .i64 0), 1, 8) := by kernel_rfl
end

end Go.Proofs.Ytbdbehdgpmfelaa
