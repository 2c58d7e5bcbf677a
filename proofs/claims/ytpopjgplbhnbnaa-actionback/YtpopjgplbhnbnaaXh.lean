import Derived.Test.YtpopjgplbhnbnaaXg
import Derived.Below
import Derived.BigQuiet
import Derived.BigRegion
import Derived.ChangeAlike
import Derived.ChangeKeysEq
import Derived.ChangeSame
import Derived.DataElems
import Derived.Deep.MidRow
import Derived.Deep.QuietTactic
import Derived.Deep.RegionHeld
import Derived.Deep.RegionHeld3
import Derived.Deep.RegionLaw
import Derived.Deep.RegionLawGrows
import Derived.Deep.RegionWith
import Derived.Deep.WholeRow
import Derived.Great.BuildSlice
import Derived.Handy
import Derived.Laws.AppendOwn
import Derived.Laws.AppendOwnNone
import Derived.Laws.BitsAllLaws
import Derived.Laws.BitsLemmas
import Derived.Laws.CopyOwn
import Derived.Laws.OwnMore
import Derived.Laws.Rows
import Derived.Laws.StructEq
import Derived.Laws.Tables
import Derived.Lib.BitFns
import Derived.Lib.SmallJoins
import Derived.OpenShut
import Derived.ProofKit
import Derived.RegionTactic
import Derived.WalkKit
import Derived.WalkLawsBesides
import Derived.WalkSmall
import Derived.WalkSpells
import Derived.WideShapes
import Derived.Test.YtpopjgplbhnbnaaXd
import Derived.Test.YtpopjgplbhnbnaaXc
namespace Go.Proofs.Ytpopjgplbhnbnaa
section
open Go Go.RowKit
set_option linter.unusedVariables false
set_option linter.unusedSimpArgs false

/-- a header: 24 numbers of two halves -/
def isH (l : List (Nat × Nat)) : Prop := l.length = 24 ∧ ∀ p ∈ l, p.1 < 18446744073709551616 ∧ p.2 < 18446744073709551616

def hv (l : List (Nat × Nat)) : Value := .agg (wdc l).toArray

theorem isH.at {l : List (Nat × Nat)} (h : isH l) {j : Nat} {p : Nat × Nat} (hp : l[j]? = some p) : p.1 < 18446744073709551616 ∧ p.2 < 18446744073709551616 := h.2 p (List.mem_of_getElem? hp)

theorem isH.get {l : List (Nat × Nat)} (h : isH l) {j : Nat} (hj : j < 24) : ∃ x y, l[j]? = some (x, y) ∧ x < 18446744073709551616 ∧ y < 18446744073709551616 := by
  have hj' : j < l.length := by rw [h.1]; exact hj
  have e : l[j]? = some l[j] := List.getElem?_eq_getElem hj'
  exact ⟨_, _, e, h.at e⟩

end

section
open Go Go.RowKit
set_option linter.unusedVariables false
set_option linter.unusedSimpArgs false

def z24 : List (Nat × Nat) := List.replicate 24 (0, 0)

theorem z24_len : z24.length = 24 := by simp [z24]
end

section
open Go Go.RowKit
set_option linter.unusedVariables false
set_option linter.unusedSimpArgs false

/-- the bits that a field has -/
def cpH (j : Nat) : Nat := lowb (fbits (j : Int) - 64)

def cpL (j : Nat) : Nat := lowb (min (fbits (j : Int)) 64)

def cp (j : Nat) (p : Nat × Nat) : Nat × Nat := (p.1 &&& cpH j, p.2 &&& cpL j)

def clip (l : List (Nat × Nat)) : List (Nat × Nat) := l.mapIdx cp
end

section
open Go Go.RowKit
set_option linter.unusedVariables false
set_option linter.unusedSimpArgs false

/-- a read may be taken first -/
theorem takeR {P : Program} {ops : Array Oper} {Q : Exit → Act → World → Prop} {S : World → Prop} {md : Region.Mode} {fuel : Nat} {listed : Array Bool} {a : Act} {w : World} {i : Nat} {oi : Oper} {v : Value} (hi : ops[i]? = some oi)
    (hs : Region.noSelect ops = true) (hf : Region.free md ops listed i = true) (hr : (Region.ready md ops listed).contains i = true)
    (d : Option Tmp) (hd : oi.dst = d) (hy : YieldsIf P ops S oi v a) (hQ : ∀ c a w, Q (.panic c) (a.put d v) w → Q (.panic c) a w) (h0 : S w)
    (h : wpAnyH P md ops Q S fuel (listed.setIfInBounds i true) (a.put d v) w) : wpAnyH P md ops Q S (fuel + 1) listed a w := by
  subst hd
  exact wpAnyH_take hi hs hf hr hQ hy h0 h
end

section
open Go Go.RowKit
set_option linter.unusedVariables false
set_option linter.unusedSimpArgs false

def h5 : List (Nat × Nat) := z24.set 5 (0, 8197)

theorem clip_len (l : List (Nat × Nat)) : (clip l).length = l.length := by simp [clip]
end

section
open Go Go.RowKit
set_option linter.unusedVariables false
set_option linter.unusedSimpArgs false

/-- a block of the call's own holds these cells, whatever its type -/
def AB (w : World) (g : Nat) (ty : TypeId) (cs : List Value) : Prop := w.heap[g]? = some (.cells cs.toArray ty)

theorem AB.lt {w : World} {g : Nat} {ty : TypeId} {cs : List Value} (h : AB w g ty cs) : g < w.heap.size := (Array.getElem?_eq_some_iff.1 h).1

theorem AB.below {w w' : World} {g B : Nat} {ty : TypeId} {cs : List Value} (h : AB w g ty cs) (hb : Below B w w') (hg : g < B) : AB w' g ty cs := by
  unfold AB at *; rw [hb.block g hg]; exact h

theorem AB.later {w w' : World} {g : Nat} {ty : TypeId} {cs : List Value} (h : AB w g ty cs) (hb : Below w.heap.size w w') : AB w' g ty cs := h.below hb h.lt

theorem AB.new (w : World) (ty : TypeId) (cs : List Value) : AB (w.alloc (.cells cs.toArray ty)) w.heap.size ty cs := heap_alloc_last w _

theorem AB.alloc {w : World} {g : Nat} {ty : TypeId} {cs : List Value} (h : AB w g ty cs) (o : Obj) : AB (w.alloc o) g ty cs := h.later ((Below.refl _ _).alloc (Nat.le_refl _) _)

theorem AB.range {w : World} {g : Nat} {ty : TypeId} {cs : List Value} (h : AB w g ty cs) : w.rangeAt g 0 cs := by
  intro j v hv
  rw [cell_of_row w g (0 + j) _ ty _ h, Nat.zero_add]
  simpa using hv

theorem AB.cell {w : World} {g j : Nat} {ty : TypeId} {cs : List Value} {v : Value} (h : AB w g ty cs) (hj : cs[j]? = some v) : w.cell? ⟨g, j, none⟩ = some v ∧ w.frozen? ⟨g, j, none⟩ = false := by
  refine ⟨?_, ?_⟩
  · rw [cell_of_row w g j _ ty _ h]; simpa using hj
  · unfold AB at h; simp [World.frozen?, h]

theorem AB.set {w : World} {g j : Nat} {ty : TypeId} {cs : List Value} (h : AB w g ty cs) (v : Value) : AB (w.setCell ⟨g, j, none⟩ v) g ty (cs.set j v) := by
  unfold AB at *
  rw [heap_setCell_same w g j _ ty v h]
  simp

theorem AB.far {w : World} {g f o : Nat} {ty : TypeId} {cs : List Value} (h : AB w g ty cs) (u : Value) (hne : g ≠ f) : AB (w.setCell ⟨f, o, none⟩ u) g ty cs := by
  unfold AB at *
  rw [Go.heap_setCell_other w ⟨f, o, none⟩ g u hne]; exact h

theorem AB.row {w : World} {g : Nat} {ty : TypeId} {cs cs' : List Value} (h : AB w g ty cs) : AB (w.setRow g cs'.toArray) g ty cs' := setRow_heap w g _ _ ty _ h

theorem AB.row_far {w : World} {g f : Nat} {ty : TypeId} {cs : List Value} (h : AB w g ty cs) (ds : Array Value) (hne : g ≠ f) : AB (w.setRow f ds) g ty cs := by
  unfold AB at *
  rw [Go.setRow_other w f g ds hne]; exact h

theorem below_row (w : World) (g B : Nat) (cs : Array Value) (hB : B ≤ g) : Below B w (w.setRow g cs) := by
  refine ⟨rfl, rfl, rfl, by simp, fun k hk => ?_⟩
  rw [Go.setRow_other w g k cs (by omega)]

/-- an array is loaded whole, guarded or not -/
theorem wpList_loadA {P : Program} {ty e : TypeId} {n : Nat} (hu : P.underlying ty = some (.array n e)) {ops : Array Oper} {rest : List Oper} {o : Oper} {a : Act} {w : World} {Q : Exit → Act → World → Prop} (hw : Region.wanted o (yielded ops a.tmps) = true) (x : Operand) (ho : o.op = .load ty x)
    (g : Nat) (hx : a.eval x = .pointer (some ⟨g, 0, none⟩)) (cs : List Value) (hi : (P.info? ty).map (·.size) = some cs.length) (h0 : AB w g ty cs)
    (h : wpList P ops Q rest (a.put o.dst (.agg cs.toArray)) w) : wpList P ops Q (o :: rest) a w :=
  wpList_wanted hw fun K hK => wp_load_row ty x ho g hx ty cs.toArray (0, 0) _ h0 hu rfl (by simpa using hi) (hK _ _ h)

/-- an array is stored whole, guarded or not; the world behind is told -/
theorem wpList_storeA {P : Program} {ty : TypeId} {ops : Array Oper} {rest : List Oper} {o : Oper} {a : Act} {w : World} {Q : Exit → Act → World → Prop} (hw : Region.wanted o (yielded ops a.tmps) = true) (x y : Operand) (ho : o.op = .store ty x y)
    (g : Nat) (hx : a.eval x = .pointer (some ⟨g, 0, none⟩)) (cs0 cs : List Value) (hl : cs0.length = cs.length) (hi : (P.info? ty).map (·.size) = some cs.length) (h1 : ∀ v ∈ cs, v.oneCell' = true) (hy : a.eval y = .agg cs.toArray) (h0 : AB w g ty cs0)
    (h : wpList P ops Q rest (a.put o.dst undef) (w.setRow g cs.toArray)) : wpList P ops Q (o :: rest) a w :=
  wpList_wanted hw fun K hK => wp_store_row ty x y ho g cs.toArray hx hy ty cs0.toArray h0 (by simpa using hi) (by simpa using hl) (all_oneCell_toArray h1) (hK _ _ h)

theorem results_A {P : Program} {ty e : TypeId} {n : Nat} (hu : P.underlying ty = some (.array n e)) {fn : Func} {p : Tmp} (h : fn.results = #[.cell p ty]) (tmps : Array Value) (w : World) (g : Nat) (cs : List Value) (hi : (P.info? ty).map (·.size) = some cs.length) (hp : tmps.getD p undef = .pointer (some ⟨g, 0, none⟩)) (hg : AB w g ty cs) :
    (results fn tmps).run P w = .ok (.agg cs.toArray) w :=
  results_cell_row h tmps w g ty cs.toArray (0, 0) _ hp hg hu rfl (by simpa using hi)

theorem results_A2 {P : Program} {ty e : TypeId} {n : Nat} (hu : P.underlying ty = some (.array n e)) {fn : Func} {p q : Tmp} (h : fn.results = #[.cell p ty, .tmp q]) (tmps : Array Value) (w : World) (g : Nat) (cs : List Value) (v : Value) (hi : (P.info? ty).map (·.size) = some cs.length) (hp : tmps.getD p undef = .pointer (some ⟨g, 0, none⟩)) (hq : tmps.getD q undef = v) (hg : AB w g ty cs) :
    (results fn tmps).run P w = .ok (.tuple #[.agg cs.toArray, v]) w := by
  have hp' : tmps[p]?.getD undef = .pointer (some ⟨g, 0, none⟩) := by simpa using hp
  have hq' : tmps[q]?.getD undef = v := by simpa using hq
  have := run_loadVar_row (P := P) w g ty ty cs.toArray (0, 0) _ hg hu rfl (by simpa using hi)
  simp [results, h, hp', hq', asAddr, this]

/-- in a region that draws: a long load may be taken first -/
theorem takeL {P : Program} {ty e : TypeId} {n : Nat} (hu : P.underlying ty = some (.array n e)) {ops : Array Oper} {Q : Exit → Act → World → Prop} {S : World → Prop} {md : Region.Mode} {fuel : Nat} {listed : Array Bool} {a : Act} {w : World} {i : Nat} {oi : Oper} (hi : ops[i]? = some oi)
    (hs : Region.noSelect ops = true) (hf : Region.free md ops listed i = true) (hr : (Region.ready md ops listed).contains i = true)
    (d : Option Tmp) (hd : oi.dst = d) (x : Operand) (ho : oi.op = .load ty x) (hw : Region.wanted oi (yielded ops a.tmps) = true) (g : Nat) (hx : a.eval x = .pointer (some ⟨g, 0, none⟩)) (cs : List Value) (hz : (P.info? ty).map (·.size) = some cs.length) (hS : ∀ w, S w → w.rangeAt g 0 cs)
    (hQ : ∀ c a w, Q (.panic c) (a.put d (.agg cs.toArray)) w → Q (.panic c) a w) (h0 : S w)
    (h : wpAnyH P md ops Q S fuel (listed.setIfInBounds i true) (a.put d (.agg cs.toArray)) w) : wpAnyH P md ops Q S (fuel + 1) listed a w := by
  subst hd
  exact wpAnyH_take hi hs hf hr hQ (yieldsIf_load_mid hw ty x ho g 0 hx cs _ hS hu rfl hz) h0 h

/-- cells of terns: four halves each -/
abbrev Q4 := Nat × Nat × Nat × Nat

def tdc : List Q4 → List Value
  | [] => []
  | p :: r => .int .u64 (p.1 : Int) :: .int .u64 (p.2.1 : Int) :: .int .u64 (p.2.2.1 : Int) :: .int .u64 (p.2.2.2 : Int) :: tdc r

theorem tdc_length : ∀ l, (tdc l).length = l.length * 4
  | [] => rfl
  | p :: r => by simp [tdc, tdc_length r]; omega

theorem tdc_one (l : List Q4) : ∀ u ∈ tdc l, u.oneCell' = true := by
  induction l with
  | nil => intro u hu; cases hu
  | cons p r ih =>
    intro u hu
    simp only [tdc, List.mem_cons] at hu
    rcases hu with rfl | rfl | rfl | rfl | hu
    · rfl
    · rfl
    · rfl
    · rfl
    · exact ih u hu

theorem tdc_drop : ∀ (l : List Q4) (j : Nat), (tdc l).drop (j * 4) = tdc (l.drop j)
  | l, 0 => by simp
  | [], j + 1 => by simp [tdc]
  | p :: l, j + 1 => by
    rw [show (j + 1) * 4 = j * 4 + 1 + 1 + 1 + 1 by omega]
    simp only [tdc, List.drop_succ_cons]
    exact tdc_drop l j

theorem tdc_at (l : List Q4) (j : Nat) (p : Q4) (h : l[j]? = some p) : (tdc l)[j * 4]? = some (.int .u64 (p.1 : Int)) ∧ (tdc l)[j * 4 + 1]? = some (.int .u64 (p.2.1 : Int)) ∧ (tdc l)[j * 4 + 2]? = some (.int .u64 (p.2.2.1 : Int)) ∧ (tdc l)[j * 4 + 3]? = some (.int .u64 (p.2.2.2 : Int)) := by
  have hj : j < l.length := (List.getElem?_eq_some_iff.1 h).1
  have e : l[j] = p := (List.getElem?_eq_some_iff.1 h).2
  have hd := tdc_drop l j
  rw [List.drop_eq_getElem_cons hj, e] at hd
  have k : ∀ i, (tdc l)[j * 4 + i]? = (tdc (p :: l.drop (j + 1)))[i]? := fun i => by rw [← hd, List.getElem?_drop]
  exact ⟨by simpa [tdc] using k 0, by simpa [tdc] using k 1, by simpa [tdc] using k 2, by simpa [tdc] using k 3⟩

theorem tdc_set : ∀ (l : List Q4) (j a b c d : Nat), ((((tdc l).set (j * 4) (.int .u64 (a : Int))).set (j * 4 + 1) (.int .u64 (b : Int))).set (j * 4 + 2) (.int .u64 (c : Int))).set (j * 4 + 3) (.int .u64 (d : Int)) = tdc (l.set j (a, b, c, d))
  | [], j, a, b, c, d => by simp [tdc]
  | p :: l, 0, a, b, c, d => by simp [tdc]
  | p :: l, j + 1, a, b, c, d => by
    have := tdc_set l j a b c d
    rw [show (j + 1) * 4 = j * 4 + 1 + 1 + 1 + 1 by omega]
    simp only [tdc, List.set_cons_succ, this]

theorem tdc_inj : ∀ {l m : List Q4}, tdc l = tdc m → l = m
  | [], [], _ => rfl
  | [], q :: m, h => by simp [tdc] at h
  | p :: l, [], h => by simp [tdc] at h
  | (a, b, c, d) :: l, (a', b', c', d') :: m, h => by
    simp [tdc] at h
    obtain ⟨h1, h2, h3, h4, h5⟩ := h
    rw [tdc_inj h5]
    have : a = a' := by omega
    have : b = b' := by omega
    have : c = c' := by omega
    have : d = d' := by omega
    subst_vars; rfl

theorem ext4 (l : List Q4) (j : Nat) (p : Q4) (h : l[j]? = some p) : (tdc l).toArray.extract (j * 4) (j * 4 + 4) = #[.int .u64 (p.1 : Int), .int .u64 (p.2.1 : Int), .int .u64 (p.2.2.1 : Int), .int .u64 (p.2.2.2 : Int)] := by
  have hj : j < l.length := (List.getElem?_eq_some_iff.1 h).1
  have e : l[j] = p := (List.getElem?_eq_some_iff.1 h).2
  rw [List.extract_toArray, List.extract_eq_take_drop, tdc_drop, List.drop_eq_getElem_cons hj, e]
  have e2 : j * 4 + 4 - j * 4 = 4 := by omega
  rw [e2]
  simp [tdc]

theorem quads_list : ∀ (n : Nat) (cs : List Value), cs.length = n * 4 → (∀ i, i < n → ∃ a b c d : Nat, (cs.drop (i * 4)).take 4 = [.int .u64 (a : Int), .int .u64 (b : Int), .int .u64 (c : Int), .int .u64 (d : Int)] ∧ a < 18446744073709551616 ∧ b < 18446744073709551616 ∧ c < 18446744073709551616 ∧ d < 18446744073709551616) →
    ∃ l : List Q4, l.length = n ∧ cs = tdc l ∧ ∀ p ∈ l, p.1 < 18446744073709551616 ∧ p.2.1 < 18446744073709551616 ∧ p.2.2.1 < 18446744073709551616 ∧ p.2.2.2 < 18446744073709551616
  | 0, cs, hl, _ => by
    have : cs = [] := List.eq_nil_of_length_eq_zero (by omega)
    subst this
    exact ⟨[], rfl, rfl, fun p hp => by cases hp⟩
  | n + 1, cs, hl, h => by
    match cs, hl with
    | [], hl => simp at hl
    | [_], hl => simp at hl; omega
    | [_, _], hl => simp at hl; omega
    | [_, _, _], hl => simp at hl; omega
    | c0 :: c1 :: c2 :: c3 :: r, hl =>
      obtain ⟨a, b, c, d, e, ha, hb, hc, hd⟩ := h 0 (by omega)
      simp at e
      obtain ⟨rfl, rfl, rfl, rfl⟩ := e
      obtain ⟨l, h1, h2, h3⟩ := quads_list n r (by simp at hl; omega) (fun i hi => by
        have := h (i + 1) (by omega)
        rw [show (i + 1) * 4 = i * 4 + 1 + 1 + 1 + 1 by omega] at this
        simpa using this)
      subst h2
      refine ⟨(a, b, c, d) :: l, by simp [h1], rfl, fun p hp => ?_⟩
      rcases List.mem_cons.1 hp with rfl | hp
      · exact ⟨ha, hb, hc, hd⟩
      · exact h3 p hp
end

section
open Go Go.RowKit
set_option linter.unusedVariables false
set_option linter.unusedSimpArgs false

/-- a tern: four halves -/
def td (a b c d : Nat) : Value := .agg #[.int .u64 (a : Int), .int .u64 (b : Int), .int .u64 (c : Int), .int .u64 (d : Int)]

theorem AB.four {w : World} {g : Nat} {ty : TypeId} {a b c d : Value} (h : AB w g ty [a, b, c, d]) : w.cell? ⟨g, 0, none⟩ = some a ∧ w.cell? ⟨g, 1, none⟩ = some b ∧ w.cell? ⟨g, 2, none⟩ = some c ∧ w.cell? ⟨g, 3, none⟩ = some d ∧ w.frozen? ⟨g, 0, none⟩ = false ∧ w.frozen? ⟨g, 1, none⟩ = false ∧ w.frozen? ⟨g, 2, none⟩ = false ∧ w.frozen? ⟨g, 3, none⟩ = false :=
  ⟨(h.cell (j := 0) rfl).1, (h.cell (j := 1) rfl).1, (h.cell (j := 2) rfl).1, (h.cell (j := 3) rfl).1, (h.cell (j := 0) rfl).2, (h.cell (j := 1) rfl).2, (h.cell (j := 2) rfl).2, (h.cell (j := 3) rfl).2⟩

theorem AB.two {w : World} {g : Nat} {ty : TypeId} {a b : Value} (h : AB w g ty [a, b]) : w.cell? ⟨g, 0, none⟩ = some a ∧ w.cell? ⟨g, 1, none⟩ = some b ∧ w.frozen? ⟨g, 0, none⟩ = false ∧ w.frozen? ⟨g, 1, none⟩ = false :=
  ⟨(h.cell (j := 0) rfl).1, (h.cell (j := 1) rfl).1, (h.cell (j := 0) rfl).2, (h.cell (j := 1) rfl).2⟩

theorem ret_td {a b c d a' b' c' d' : Nat} (h : a = a') (h2 : b = b') (h3 : c = c') (h4 : d = d') : Ending.returned (td a b c d) = .returned (td a' b' c' d') := by rw [h, h2, h3, h4]

/-- a block that was laid stays, as it was, where more is laid -/
theorem AB.at0 (w : World) (t : TypeId) (cs : List Value) : AB (w.alloc (.cells cs.toArray t)) w.heap.size t cs := AB.new w t cs

theorem AB.at1 (w : World) (o : Obj) (t : TypeId) (cs : List Value) : AB ((w.alloc o).alloc (.cells cs.toArray t)) (w.heap.size + 1) t cs := by
  have := AB.new (w.alloc o) t cs
  simpa using this

theorem AB.at2 (w : World) (o o' : Obj) (t : TypeId) (cs : List Value) : AB (((w.alloc o).alloc o').alloc (.cells cs.toArray t)) (w.heap.size + 1 + 1) t cs := by
  have := AB.new ((w.alloc o).alloc o') t cs
  simpa using this

theorem below1 (w : World) (o : Obj) : Below w.heap.size w (w.alloc o) := (Below.refl _ _).alloc (Nat.le_refl _) _

theorem below2 (w : World) (o o' : Obj) : Below w.heap.size w ((w.alloc o).alloc o') := (below1 w o).alloc (by simp) _

theorem below3 (w : World) (o o' o'' : Obj) : Below w.heap.size w (((w.alloc o).alloc o').alloc o'') := (below2 w o o').alloc (by simp; omega) _

theorem keepH {g f : Nat} {i0 i1 i2 i3 j0 j1 : Nat} {w0 wa wb : World} {x0 x1 x2 x3 y0 y1 : Value} (k : Below wa.heap.size wa wb) (h : wa.cell? ⟨g, i0, none⟩ = some x0 ∧ wa.cell? ⟨g, i1, none⟩ = some x1 ∧ wa.cell? ⟨g, i2, none⟩ = some x2 ∧ wa.cell? ⟨g, i3, none⟩ = some x3 ∧ wa.cell? ⟨f, j0, none⟩ = some y0 ∧ wa.cell? ⟨f, j1, none⟩ = some y1 ∧ Below w0.heap.size w0 wa) :
    wb.cell? ⟨g, i0, none⟩ = some x0 ∧ wb.cell? ⟨g, i1, none⟩ = some x1 ∧ wb.cell? ⟨g, i2, none⟩ = some x2 ∧ wb.cell? ⟨g, i3, none⟩ = some x3 ∧ wb.cell? ⟨f, j0, none⟩ = some y0 ∧ wb.cell? ⟨f, j1, none⟩ = some y1 ∧ Below w0.heap.size w0 wb :=
  ⟨cell_later k h.1, cell_later k h.2.1, cell_later k h.2.2.1, cell_later k h.2.2.2.1, cell_later k h.2.2.2.2.1, cell_later k h.2.2.2.2.2.1, h.2.2.2.2.2.2.trans (k.mono h.2.2.2.2.2.2.size)⟩

/-- a block of four cells that may be written -/
def Room4 (w : World) (g : Nat) (ty : TypeId) : Prop := ∃ a b c d, AB w g ty [a, b, c, d]

theorem AB.far4 {w : World} {g f : Nat} {ty : TypeId} {cs : List Value} (h : AB w g ty cs) (hne : g ≠ f) (x y z u : Value) : AB ((((w.setCell ⟨f, 0, none⟩ x).setCell ⟨f, 1, none⟩ y).setCell ⟨f, 2, none⟩ z).setCell ⟨f, 3, none⟩ u) g ty cs :=
  (((h.far x hne).far y hne).far z hne).far u hne

theorem AB.room {w : World} {g : Nat} {ty : TypeId} {a b c d : Value} (h : AB w g ty [a, b, c, d]) : Room4 w g ty := ⟨a, b, c, d, h⟩

theorem Room4.later {w w' : World} {g : Nat} {ty : TypeId} (h : Room4 w g ty) (k : Below w.heap.size w w') : Room4 w' g ty := by
  obtain ⟨a, b, c, d, h⟩ := h
  exact ⟨a, b, c, d, h.later k⟩

theorem Room4.fill {w : World} {g : Nat} {ty : TypeId} (h : Room4 w g ty) (x y z u : Value) : AB ((((w.setCell ⟨g, 0, none⟩ x).setCell ⟨g, 1, none⟩ y).setCell ⟨g, 2, none⟩ z).setCell ⟨g, 3, none⟩ u) g ty [x, y, z, u] := by
  obtain ⟨a, b, c, d, h⟩ := h
  exact (((h.set (j := 0) x).set (j := 1) y).set (j := 2) z).set (j := 3) u

theorem Room4.cells {w : World} {g : Nat} {ty : TypeId} (h : Room4 w g ty) : ∃ a b c d, w.cell? ⟨g, 0, none⟩ = some a ∧ w.cell? ⟨g, 1, none⟩ = some b ∧ w.cell? ⟨g, 2, none⟩ = some c ∧ w.cell? ⟨g, 3, none⟩ = some d ∧ w.frozen? ⟨g, 0, none⟩ = false ∧ w.frozen? ⟨g, 1, none⟩ = false ∧ w.frozen? ⟨g, 2, none⟩ = false ∧ w.frozen? ⟨g, 3, none⟩ = false := by
  obtain ⟨a, b, c, d, h⟩ := h
  exact ⟨a, b, c, d, h.four⟩

theorem below_fill {w0 w : World} {g n : Nat} (h : Below n w0 w) (hg : n ≤ g) (x y z u : Value) : Below n w0 ((((w.setCell ⟨g, 0, none⟩ x).setCell ⟨g, 1, none⟩ y).setCell ⟨g, 2, none⟩ z).setCell ⟨g, 3, none⟩ u) :=
  (((h.setCell hg x).setCell hg y).setCell hg z).setCell hg u

theorem cell_fill {w : World} {g : Nat} {p : Addr} (hp : g ≠ p.block) (x y z u : Value) : ((((w.setCell ⟨g, 0, none⟩ x).setCell ⟨g, 1, none⟩ y).setCell ⟨g, 2, none⟩ z).setCell ⟨g, 3, none⟩ u).cell? p = w.cell? p := by
  have hn : ∀ i, (⟨g, i, none⟩ : Addr) ≠ p := fun i e => hp (by rw [← e])
  rw [World.cell?_setCell_other (h := hn 3), World.cell?_setCell_other (h := hn 2), World.cell?_setCell_other (h := hn 1), World.cell?_setCell_other (h := hn 0)]

theorem keepA6 {p0 p1 p2 p3 p4 p5 : Addr} {x0 x1 x2 x3 x4 x5 : Value} {w0 wa wb : World} (k : Below wa.heap.size wa wb) (h : wa.cell? p0 = some x0 ∧ wa.cell? p1 = some x1 ∧ wa.cell? p2 = some x2 ∧ wa.cell? p3 = some x3 ∧ wa.cell? p4 = some x4 ∧ wa.cell? p5 = some x5 ∧ Below w0.heap.size w0 wa) :
    wb.cell? p0 = some x0 ∧ wb.cell? p1 = some x1 ∧ wb.cell? p2 = some x2 ∧ wb.cell? p3 = some x3 ∧ wb.cell? p4 = some x4 ∧ wb.cell? p5 = some x5 ∧ Below w0.heap.size w0 wb :=
  ⟨cell_later k h.1, cell_later k h.2.1, cell_later k h.2.2.1, cell_later k h.2.2.2.1, cell_later k h.2.2.2.2.1, cell_later k h.2.2.2.2.2.1, h.2.2.2.2.2.2.trans (k.mono h.2.2.2.2.2.2.size)⟩

theorem keepA8 {p0 p1 p2 p3 p4 p5 p6 p7 : Addr} {x0 x1 x2 x3 x4 x5 x6 x7 : Value} {w0 wa wb : World} (k : Below wa.heap.size wa wb) (h : wa.cell? p0 = some x0 ∧ wa.cell? p1 = some x1 ∧ wa.cell? p2 = some x2 ∧ wa.cell? p3 = some x3 ∧ wa.cell? p4 = some x4 ∧ wa.cell? p5 = some x5 ∧ wa.cell? p6 = some x6 ∧ wa.cell? p7 = some x7 ∧ Below w0.heap.size w0 wa) :
    wb.cell? p0 = some x0 ∧ wb.cell? p1 = some x1 ∧ wb.cell? p2 = some x2 ∧ wb.cell? p3 = some x3 ∧ wb.cell? p4 = some x4 ∧ wb.cell? p5 = some x5 ∧ wb.cell? p6 = some x6 ∧ wb.cell? p7 = some x7 ∧ Below w0.heap.size w0 wb :=
  ⟨cell_later k h.1, cell_later k h.2.1, cell_later k h.2.2.1, cell_later k h.2.2.2.1, cell_later k h.2.2.2.2.1, cell_later k h.2.2.2.2.2.1, cell_later k h.2.2.2.2.2.2.1, cell_later k h.2.2.2.2.2.2.2.1, h.2.2.2.2.2.2.2.2.trans (k.mono h.2.2.2.2.2.2.2.2.size)⟩

theorem keepA8R {p0 p1 p2 p3 p4 p5 p6 p7 : Addr} {x0 x1 x2 x3 x4 x5 x6 x7 : Value} {w0 wa wb : World} {r : Nat} {ty : TypeId} (k : Below wa.heap.size wa wb) (h : wa.cell? p0 = some x0 ∧ wa.cell? p1 = some x1 ∧ wa.cell? p2 = some x2 ∧ wa.cell? p3 = some x3 ∧ wa.cell? p4 = some x4 ∧ wa.cell? p5 = some x5 ∧ wa.cell? p6 = some x6 ∧ wa.cell? p7 = some x7 ∧ Room4 wa r ty ∧ Below w0.heap.size w0 wa) :
    wb.cell? p0 = some x0 ∧ wb.cell? p1 = some x1 ∧ wb.cell? p2 = some x2 ∧ wb.cell? p3 = some x3 ∧ wb.cell? p4 = some x4 ∧ wb.cell? p5 = some x5 ∧ wb.cell? p6 = some x6 ∧ wb.cell? p7 = some x7 ∧ Room4 wb r ty ∧ Below w0.heap.size w0 wb :=
  ⟨cell_later k h.1, cell_later k h.2.1, cell_later k h.2.2.1, cell_later k h.2.2.2.1, cell_later k h.2.2.2.2.1, cell_later k h.2.2.2.2.2.1, cell_later k h.2.2.2.2.2.2.1, cell_later k h.2.2.2.2.2.2.2.1, h.2.2.2.2.2.2.2.2.1.later k, h.2.2.2.2.2.2.2.2.2.trans (k.mono h.2.2.2.2.2.2.2.2.2.size)⟩

theorem keepA8R' {p0 p1 p2 p3 p4 p5 p6 p7 : Addr} {x0 x1 x2 x3 x4 x5 x6 x7 y0 y1 y2 y3 : Value} {w0 wa : World} {r : Nat} {ty : TypeId} (h : wa.cell? p0 = some x0 ∧ wa.cell? p1 = some x1 ∧ wa.cell? p2 = some x2 ∧ wa.cell? p3 = some x3 ∧ wa.cell? p4 = some x4 ∧ wa.cell? p5 = some x5 ∧ wa.cell? p6 = some x6 ∧ wa.cell? p7 = some x7 ∧ Room4 wa r ty ∧ Below w0.heap.size w0 wa) (hr : w0.heap.size ≤ r) (h0 : r ≠ p0.block) (h1 : r ≠ p1.block) (h2 : r ≠ p2.block) (h3 : r ≠ p3.block) (h4 : r ≠ p4.block) (h5 : r ≠ p5.block) (h6 : r ≠ p6.block) (h7 : r ≠ p7.block) :
    ((((wa.setCell ⟨r, 0, none⟩ y0).setCell ⟨r, 1, none⟩ y1).setCell ⟨r, 2, none⟩ y2).setCell ⟨r, 3, none⟩ y3).cell? p0 = some x0 ∧ ((((wa.setCell ⟨r, 0, none⟩ y0).setCell ⟨r, 1, none⟩ y1).setCell ⟨r, 2, none⟩ y2).setCell ⟨r, 3, none⟩ y3).cell? p1 = some x1 ∧ ((((wa.setCell ⟨r, 0, none⟩ y0).setCell ⟨r, 1, none⟩ y1).setCell ⟨r, 2, none⟩ y2).setCell ⟨r, 3, none⟩ y3).cell? p2 = some x2 ∧ ((((wa.setCell ⟨r, 0, none⟩ y0).setCell ⟨r, 1, none⟩ y1).setCell ⟨r, 2, none⟩ y2).setCell ⟨r, 3, none⟩ y3).cell? p3 = some x3 ∧ ((((wa.setCell ⟨r, 0, none⟩ y0).setCell ⟨r, 1, none⟩ y1).setCell ⟨r, 2, none⟩ y2).setCell ⟨r, 3, none⟩ y3).cell? p4 = some x4 ∧ ((((wa.setCell ⟨r, 0, none⟩ y0).setCell ⟨r, 1, none⟩ y1).setCell ⟨r, 2, none⟩ y2).setCell ⟨r, 3, none⟩ y3).cell? p5 = some x5 ∧ ((((wa.setCell ⟨r, 0, none⟩ y0).setCell ⟨r, 1, none⟩ y1).setCell ⟨r, 2, none⟩ y2).setCell ⟨r, 3, none⟩ y3).cell? p6 = some x6 ∧ ((((wa.setCell ⟨r, 0, none⟩ y0).setCell ⟨r, 1, none⟩ y1).setCell ⟨r, 2, none⟩ y2).setCell ⟨r, 3, none⟩ y3).cell? p7 = some x7 ∧ Room4 ((((wa.setCell ⟨r, 0, none⟩ y0).setCell ⟨r, 1, none⟩ y1).setCell ⟨r, 2, none⟩ y2).setCell ⟨r, 3, none⟩ y3) r ty ∧ Below w0.heap.size w0 ((((wa.setCell ⟨r, 0, none⟩ y0).setCell ⟨r, 1, none⟩ y1).setCell ⟨r, 2, none⟩ y2).setCell ⟨r, 3, none⟩ y3) :=
  ⟨(cell_fill h0 _ _ _ _).trans h.1, (cell_fill h1 _ _ _ _).trans h.2.1, (cell_fill h2 _ _ _ _).trans h.2.2.1, (cell_fill h3 _ _ _ _).trans h.2.2.2.1, (cell_fill h4 _ _ _ _).trans h.2.2.2.2.1, (cell_fill h5 _ _ _ _).trans h.2.2.2.2.2.1, (cell_fill h6 _ _ _ _).trans h.2.2.2.2.2.2.1, (cell_fill h7 _ _ _ _).trans h.2.2.2.2.2.2.2.1, ⟨_, _, _, _, h.2.2.2.2.2.2.2.2.1.fill _ _ _ _⟩, below_fill h.2.2.2.2.2.2.2.2.2 hr _ _ _ _⟩

/-- what a region that fills a tern of its own holds -/
theorem keepF {g r : Nat} {ty : TypeId} {w0 wa wb : World} {x0 x1 x2 x3 : Value} (k : Below wa.heap.size wa wb) (h : wa.cell? ⟨g, 0, none⟩ = some x0 ∧ wa.cell? ⟨g, 1, none⟩ = some x1 ∧ wa.cell? ⟨g, 2, none⟩ = some x2 ∧ wa.cell? ⟨g, 3, none⟩ = some x3 ∧ Room4 wa r ty ∧ Below w0.heap.size w0 wa) :
    wb.cell? ⟨g, 0, none⟩ = some x0 ∧ wb.cell? ⟨g, 1, none⟩ = some x1 ∧ wb.cell? ⟨g, 2, none⟩ = some x2 ∧ wb.cell? ⟨g, 3, none⟩ = some x3 ∧ Room4 wb r ty ∧ Below w0.heap.size w0 wb :=
  ⟨cell_later k h.1, cell_later k h.2.1, cell_later k h.2.2.1, cell_later k h.2.2.2.1, h.2.2.2.2.1.later k, h.2.2.2.2.2.trans (k.mono h.2.2.2.2.2.size)⟩

theorem keepF' {g r : Nat} {ty : TypeId} {w0 wa : World} {x0 x1 x2 x3 y0 y1 y2 y3 : Value} (h : wa.cell? ⟨g, 0, none⟩ = some x0 ∧ wa.cell? ⟨g, 1, none⟩ = some x1 ∧ wa.cell? ⟨g, 2, none⟩ = some x2 ∧ wa.cell? ⟨g, 3, none⟩ = some x3 ∧ Room4 wa r ty ∧ Below w0.heap.size w0 wa) (hg : r ≠ g) (hr : w0.heap.size ≤ r) :
    ((((wa.setCell ⟨r, 0, none⟩ y0).setCell ⟨r, 1, none⟩ y1).setCell ⟨r, 2, none⟩ y2).setCell ⟨r, 3, none⟩ y3).cell? ⟨g, 0, none⟩ = some x0 ∧ ((((wa.setCell ⟨r, 0, none⟩ y0).setCell ⟨r, 1, none⟩ y1).setCell ⟨r, 2, none⟩ y2).setCell ⟨r, 3, none⟩ y3).cell? ⟨g, 1, none⟩ = some x1 ∧ ((((wa.setCell ⟨r, 0, none⟩ y0).setCell ⟨r, 1, none⟩ y1).setCell ⟨r, 2, none⟩ y2).setCell ⟨r, 3, none⟩ y3).cell? ⟨g, 2, none⟩ = some x2 ∧ ((((wa.setCell ⟨r, 0, none⟩ y0).setCell ⟨r, 1, none⟩ y1).setCell ⟨r, 2, none⟩ y2).setCell ⟨r, 3, none⟩ y3).cell? ⟨g, 3, none⟩ = some x3 ∧ Room4 ((((wa.setCell ⟨r, 0, none⟩ y0).setCell ⟨r, 1, none⟩ y1).setCell ⟨r, 2, none⟩ y2).setCell ⟨r, 3, none⟩ y3) r ty ∧ Below w0.heap.size w0 ((((wa.setCell ⟨r, 0, none⟩ y0).setCell ⟨r, 1, none⟩ y1).setCell ⟨r, 2, none⟩ y2).setCell ⟨r, 3, none⟩ y3) :=
  ⟨(cell_fill hg _ _ _ _).trans h.1, (cell_fill hg _ _ _ _).trans h.2.1, (cell_fill hg _ _ _ _).trans h.2.2.1, (cell_fill hg _ _ _ _).trans h.2.2.2.1, ⟨_, _, _, _, h.2.2.2.2.1.fill _ _ _ _⟩, below_fill h.2.2.2.2.2 hr _ _ _ _⟩
end

end Go.Proofs.Ytpopjgplbhnbnaa
