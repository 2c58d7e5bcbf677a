import Derived.Test.YtcffebkebldjcaaProg
import Derived.Test.YtcffebkebldjcaaXd
import Derived.Test.YtcffebkebldjcaaXh
import Derived.Below
import Derived.BigQuiet
import Derived.BigRegion
import Derived.ChangeAlike
import Derived.ChangeKeysEq
import Derived.ChangeSame
import Derived.DataElems
import Derived.Deep.MidRow
import Derived.Deep.QuietTactic
import Derived.Deep.RegionHeld
import Derived.Deep.RegionHeld3
import Derived.Deep.RegionLaw
import Derived.Deep.RegionLawGrows
import Derived.Deep.RegionWith
import Derived.Deep.WholeRow
import Derived.Great.BuildSlice
import Derived.Handy
import Derived.Laws.AppendOwn
import Derived.Laws.AppendOwnNone
import Derived.Laws.BitsAllLaws
import Derived.Laws.BitsLemmas
import Derived.Laws.CopyOwn
import Derived.Laws.OwnMore
import Derived.Laws.Rows
import Derived.Laws.StructEq
import Derived.Laws.Tables
import Derived.Lib.BitFns
import Derived.Lib.SmallJoins
import Derived.OpenShut
import Derived.ProofKit
import Derived.RegionTactic
import Derived.WalkKit
import Derived.WalkLawsBesides
import Derived.WalkSmall
import Derived.WalkSpells
import Derived.WideShapes
import Derived.Test.YtcffebkebldjcaaXa
import Derived.Test.YtcffebkebldjcaaXg
import Derived.Test.YtcffebkebldjcaaXe
namespace Go.Proofs.Ytcffebkebldjcaa
set_option maxRecDepth 100000
section
open Go Go.RowKit
set_option linter.unusedVariables false
set_option linter.unusedSimpArgs false

/-- what a tern has -/
def thz (a b c d x y : Nat) : Bool := (a ^^^ x) &&& c == 0 && (b ^^^ y) &&& d == 0

theorem thas_z (a b c d x y : Nat) (w : World) (ha : a < 18446744073709551616) (hb : b < 18446744073709551616) (hc : c < 18446744073709551616) (hd : d < 18446744073709551616) (hx : x < 18446744073709551616) (hy : y < 18446744073709551616) :
    Calls Try.prog 61 #[td a b c d, wd x y] w fun e w' => e = .returned (.bool (thz a b c d x y)) ∧ Below w.heap.size w w' := thas_any a b c d x y w ha hb hc hd hx hy
end

section
open Go Go.RowKit
set_option linter.unusedVariables false
set_option linter.unusedSimpArgs false

/-- a cube: 24 terns -/
def isC (l : List Q4) : Prop := l.length = 24 ∧ ∀ p ∈ l, p.1 < 18446744073709551616 ∧ p.2.1 < 18446744073709551616 ∧ p.2.2.1 < 18446744073709551616 ∧ p.2.2.2 < 18446744073709551616

def cv (l : List Q4) : Value := .agg (tdc l).toArray

theorem isC.get {l : List Q4} (h : isC l) {k : Nat} (hk : k < 24) : ∃ a b c d, l[k]? = some (a, b, c, d) ∧ a < 18446744073709551616 ∧ b < 18446744073709551616 ∧ c < 18446744073709551616 ∧ d < 18446744073709551616 := by
  have hk' : k < l.length := by rw [h.1]; exact hk
  obtain ⟨h1, h2, h3, h4⟩ := h.2 l[k] (List.getElem_mem hk')
  exact ⟨l[k].1, l[k].2.1, l[k].2.2.1, l[k].2.2.2, by rw [List.getElem?_eq_getElem hk'], h1, h2, h3, h4⟩

theorem AB.quad {w : World} {g k : Nat} {ty : TypeId} {l : List Q4} {a b c d : Nat} (h : AB w g ty (tdc l)) (hk : l[k]? = some (a, b, c, d)) :
    w.cell? ⟨g, k * 4, none⟩ = some (.int .u64 (a : Int)) ∧ w.cell? ⟨g, k * 4 + 1, none⟩ = some (.int .u64 (b : Int)) ∧ w.cell? ⟨g, k * 4 + 2, none⟩ = some (.int .u64 (c : Int)) ∧ w.cell? ⟨g, k * 4 + 3, none⟩ = some (.int .u64 (d : Int)) ∧ w.frozen? ⟨g, k * 4, none⟩ = false ∧ w.frozen? ⟨g, k * 4 + 1, none⟩ = false ∧ w.frozen? ⟨g, k * 4 + 2, none⟩ = false ∧ w.frozen? ⟨g, k * 4 + 3, none⟩ = false := by
  obtain ⟨h0, h1, h2, h3⟩ := tdc_at l k (a, b, c, d) hk
  exact ⟨(h.cell h0).1, (h.cell h1).1, (h.cell h2).1, (h.cell h3).1, (h.cell h0).2, (h.cell h1).2, (h.cell h2).2, (h.cell h3).2⟩

theorem AB.pair {w : World} {g k : Nat} {ty : TypeId} {l : List (Nat × Nat)} {x y : Nat} (h : AB w g ty (wdc l)) (hk : l[k]? = some (x, y)) :
    w.cell? ⟨g, k * 2, none⟩ = some (.int .u64 (x : Int)) ∧ w.cell? ⟨g, k * 2 + 1, none⟩ = some (.int .u64 (y : Int)) ∧ w.frozen? ⟨g, k * 2, none⟩ = false ∧ w.frozen? ⟨g, k * 2 + 1, none⟩ = false := by
  obtain ⟨h0, h1⟩ := wdc_at l k (x, y) hk
  exact ⟨(h.cell h0).1, (h.cell h1).1, (h.cell h0).2, (h.cell h1).2⟩

set_option maxRecDepth 100000 in
set_option maxHeartbeats 1000000 in
theorem chas_fn (l : List Q4) (m : List (Nat × Nat)) (g f k a b c d x y : Nat) (w : World) (hk : k < 24) (hl : l[k]? = some (a, b, c, d)) (hm : m[k]? = some (x, y)) (ha : a < 18446744073709551616) (hb : b < 18446744073709551616) (hc : c < 18446744073709551616) (hd : d < 18446744073709551616) (hx : x < 18446744073709551616) (hy : y < 18446744073709551616) (hA : AB w g 39 (tdc l)) (hH : AB w f 48 (wdc m)) :
    Calls Try.prog 60 #[.int .i64 (k : Int), .pointer (some ⟨g, 0, none⟩), .pointer (some ⟨f, 0, none⟩)] w fun e w' => e = .returned (.bool (thz a b c d x y)) ∧ Below w.heap.size w w' := by
  have q1 := hide_ (fun w => thas_z a b c d x y w ha hb hc hd hx hy)
  generalize thz a b c d x y = z at *
  obtain ⟨o0, o1, o2, o3, -⟩ := hA.quad hl
  obtain ⟨o4, o5, -⟩ := hH.pair hm
  have g1 : (0 : Int) ≤ (k : Int) := by omega
  have g2 : (k : Int) < 24 := by omega
  unfold td at *
  unfold wd at *
  clear hA hH hl hm ha hb hc hd hx hy
  go_enter Try.func60, Try.ntmps60
  go_wp2_with fail
  go_region_held3 (fun w' => w'.cell? ⟨g, k * 4, none⟩ = some (.int .u64 (a : Int)) ∧ w'.cell? ⟨g, k * 4 + 1, none⟩ = some (.int .u64 (b : Int)) ∧ w'.cell? ⟨g, k * 4 + 2, none⟩ = some (.int .u64 (c : Int)) ∧ w'.cell? ⟨g, k * 4 + 3, none⟩ = some (.int .u64 (d : Int)) ∧ w'.cell? ⟨f, k * 2, none⟩ = some (.int .u64 (x : Int)) ∧ w'.cell? ⟨f, k * 2 + 1, none⟩ = some (.int .u64 (y : Int)) ∧ Below w.heap.size w w')
    (first | (with_reducible exact keepA6 (by assumption) (by assumption)) | (exact ⟨o0, o1, o2, o3, o4, o5, (Below.refl _ _).drew⟩) | (exact ⟨o0, o1, o2, o3, o4, o5, Below.refl _ _⟩))
    (first | (go_at_call 61; refine (q1.out _).mono ?_; rintro e w' ⟨rfl, hb⟩))
  rename_i hH
  have bel := hH.2.2.2.2.2.2
  clear hH
  go_wp2_with fail
  go_ret
  exact ⟨rfl, bel⟩
end

section
open Go Go.RowKit
set_option linter.unusedVariables false
set_option linter.unusedSimpArgs false

def allB (p : Nat → Bool) (n : Nat) : Bool := (List.range n).all p

theorem allB_succ (p : Nat → Bool) (n : Nat) : allB p (n + 1) = (allB p n && p n) := by
  unfold allB; rw [List.range_succ, List.all_append]; simp

theorem allB_false {p : Nat → Bool} {k n : Nat} (hk : k < n) (h : p k = false) : allB p n = false := by
  rw [Bool.eq_false_iff]
  intro e
  unfold allB at e
  rw [List.all_eq_true] at e
  have := e k (List.mem_range.2 hk)
  rw [h] at this
  cases this

set_option maxRecDepth 100000 in
set_option maxHeartbeats 1000000 in
theorem every_has (v0 v1 : Value) (p : Nat → Bool) (w : World) (hC : ∀ k : Nat, k < 24 → ∀ W, Below w.heap.size w W → Calls Try.prog 60 #[.int .i64 (k : Int), v0, v1] W fun e W' => e = .returned (.bool (p k)) ∧ Below W.heap.size W W') :
    Calls Try.prog 59 #[.func (.func 60) #[] #[v0, v1]] w fun e w' => e = .returned (.bool (allB p 24)) ∧ Below w.heap.size w w' := by
  have HC := hide_ hC
  clear hC
  obtain ⟨z, hz⟩ : ∃ z, allB p 24 = z := ⟨_, rfl⟩
  have HZ := hide_ hz
  rw [hz]
  clear hz
  go_enter Try.func59, Try.ntmps59
  go_wp2_with fail
  go_loopw [3, 4] (fun i k wr => ∃ j : Nat, j ≤ 24 ∧ k = .int .i64 (j : Int) ∧ Hid (allB p j = true) ∧ Below w.heap.size w wr) (fun _ k _ => 24 - (intOf k).toNat)
  case atStart => exact ⟨0, by omega, rfl, hide_ rfl, Below.refl _ _⟩
  case round =>
    obtain ⟨j, hj, rfl, HP, hb⟩ := hrel
    by_cases hlt : j < 24
    · have hlt' : (j : Int) < 24 := by omega
      have q := hide_ (HC.out j hlt wr hb)
      cases hp : p j
      · rw [hp] at q
        have HE : Hid (false = z) := hide_ (by rw [← HZ.out, allB_false hlt hp])
        go_wp2_with (go_at_call 60; refine q.out.mono ?_; rintro e w1 ⟨rfl, b1⟩)
        go_ret
        exact ⟨ret_bool HE.out, hb.trans (b1.mono hb.size)⟩
      · rw [hp] at q
        have HE : Hid (allB p (j + 1) = true) := hide_ (by rw [allB_succ, HP.out, hp]; rfl)
        go_wp2_with (go_at_call 60; refine q.out.mono ?_; rintro e w1 ⟨rfl, b1⟩)
        go_roundw
        case rel => exact ⟨j + 1, by omega, by go_num, HE, hb.trans (b1.mono hb.size)⟩
        case measure => simp [intOf]; omega
    · have hlt' : ¬ (j : Int) < 24 := by omega
      have e : j = 24 := by omega
      subst e
      have HE : Hid (true = z) := hide_ (by rw [← HZ.out, HP.out])
      go_wp2_with fail
      go_ret
      exact ⟨ret_bool HE.out, hb⟩

def z24q : List Q4 := List.replicate 24 (0, 0, 0, 0)

theorem z24q_len : z24q.length = 24 := by simp [z24q]

theorem zcC : (tdc z24q).toArray = (tdc z24q).toArray := by kernel_rfl
theorem zC' : (Try.prog.info? 39).map (fun i => (i.zero, i.size)) = some (some (.agg (tdc z24q).toArray), 96) := by kernel_rfl

theorem szC {l : List Q4} (h : l.length = 24) : (Try.prog.info? 39).map (·.size) = some (tdc l).length := by
  have e : (tdc l).length = 96 := by rw [tdc_length, h]
  exact Eq.trans (by kernel_rfl : (Try.prog.info? 39).map (·.size) = some 96) (by rw [e])

theorem AB.setq {w : World} {g : Nat} {ty : TypeId} {l : List Q4} (h : AB w g ty (tdc l)) (k a b c d : Nat) : AB ((((w.setCell ⟨g, k * 4, none⟩ (.int .u64 (a : Int))).setCell ⟨g, k * 4 + 1, none⟩ (.int .u64 (b : Int))).setCell ⟨g, k * 4 + 2, none⟩ (.int .u64 (c : Int))).setCell ⟨g, k * 4 + 3, none⟩ (.int .u64 (d : Int))) g ty (tdc (l.set k (a, b, c, d))) := by
  rw [← tdc_set]
  exact (((h.set (j := k * 4) _).set (j := k * 4 + 1) _).set (j := k * 4 + 2) _).set (j := k * 4 + 3) _
end

section
open Go Go.RowKit
set_option linter.unusedVariables false
set_option linter.unusedSimpArgs false

/-- the tern of a field -/
def cq (l : List Q4) (k : Nat) : Q4 := l.getD k (0, 0, 0, 0)

def wq (m : List (Nat × Nat)) (k : Nat) : Nat × Nat := m.getD k (0, 0)

theorem cq_at {l : List Q4} {k : Nat} {q : Q4} (h : l[k]? = some q) : cq l k = q := by simp [cq, h]

theorem wq_at {m : List (Nat × Nat)} {k : Nat} {q : Nat × Nat} (h : m[k]? = some q) : wq m k = q := by simp [wq, h]

def thz4 (q : Q4) (v : Nat × Nat) : Bool := thz q.1 q.2.1 q.2.2.1 q.2.2.2 v.1 v.2

/-- what cubes answer -/
def hasC (l : List Q4) (m : List (Nat × Nat)) : Bool := allB (fun k => thz4 (cq l k) (wq m k)) 24

set_option maxRecDepth 100000 in
set_option maxHeartbeats 1000000 in
theorem chas_any (l : List Q4) (m : List (Nat × Nat)) (hl : isC l) (hm : isH m) (w : World) :
    Calls Try.prog 26 #[cv l, hv m] w fun e w' => e = .returned (.bool (hasC l m)) ∧ Below w.heap.size w w' := by
  have A0 := (AB.at0 w 39 (tdc l)).alloc (.cells (wdc m).toArray 48)
  have H0 := AB.at1 w (.cells (tdc l).toArray 39) 48 (wdc m)
  have B0 := hide_ (below2 w (.cells (tdc l).toArray 39) (.cells (wdc m).toArray 48))
  have q := hide_ (every_has (.pointer (some ⟨w.heap.size, 0, none⟩)) (.pointer (some ⟨(w.heap.size + 1), 0, none⟩)) (fun k => thz4 (cq l k) (wq m k)) ((w.alloc (.cells (tdc l).toArray 39)).alloc (.cells (wdc m).toArray 48)) (fun k hk W' hb => by
    obtain ⟨a, b, c, d, e1, h1, h2, h3, h4⟩ := hl.get hk
    obtain ⟨x, y, e2, h5, h6⟩ := hm.get hk
    have := chas_fn l m w.heap.size (w.heap.size + 1) k a b c d x y W' hk e1 e2 h1 h2 h3 h4 h5 h6 (A0.later hb) (H0.later hb)
    show Calls Try.prog 60 #[.int .i64 (k : Int), _, _] W' fun e W'' => e = .returned (.bool (thz4 (cq l k) (wq m k))) ∧ _
    rw [cq_at e1, wq_at e2]
    exact this))
  unfold hasC cv hv
  generalize allB (fun k => thz4 (cq l k) (wq m k)) 24 = z at *
  clear A0 H0
  have hmf : ∀ (fn : Fn) (first cap : Array Value) (w : World), (Instr.makeFunc fn first cap).run Try.prog w = .ok (.func fn first cap) w := fun _ _ _ _ => rfl
  go_enter Try.func26, Try.ntmps26
  go_wp2_with (go_at_call 59; refine q.out.mono ?_; rintro e w1 ⟨rfl, b1⟩)
  go_ret
  exact ⟨rfl, B0.out.trans (b1.mono B0.out.size)⟩
end

section
open Go Go.RowKit
set_option linter.unusedVariables false
set_option linter.unusedSimpArgs false

set_option maxRecDepth 100000 in
set_option maxHeartbeats 1000000 in
theorem call_any (w : World) :
    Calls Try.prog 42 #[] w fun e w' => e = .returned (cv z24q) ∧ Below w.heap.size w w' := by
  have Z0 : Hid (AB (w.alloc (.cells (tdc z24q).toArray 39)) w.heap.size 39 (tdc z24q)) := hide_ (by rw [zcC]; exact AB.at0 w 39 (tdc z24q))
  have B0 := hide_ (below1 w (.cells (tdc z24q).toArray 39))
  unfold cv
  obtain ⟨hz0, -⟩ := zero_of_info zC'
  go_enter Try.func42, Try.ntmps42
  go_wp2_with (refine wpList_storeA rfl (.tmp 0) (.tmp 1) rfl w.heap.size (by simp [Act.eval, Act.put]) (tdc z24q) (tdc z24q) rfl (szC z24q_len) (tdc_one _) (by simp [Act.eval, Act.put]) Z0.out ?_)
  exact bodyPost_ret (results_A Try.underlying39 Try.results42 _ _ w.heap.size (tdc z24q) (szC z24q_len) rfl Z0.out.row) rfl ⟨rfl, B0.out.trans (below_row _ _ _ _ (Nat.le_refl _))⟩
end

section
open Go Go.RowKit
set_option linter.unusedVariables false
set_option linter.unusedSimpArgs false

theorem info26 : (Try.prog.info? 37).map (fun i => (i.zero, i.size, i.bytes)) = some (some (.agg #[.int .u64 0, .int .u64 0, .int .u64 0, .int .u64 0]), 4, 32) := by kernel_rfl

theorem info26' : ∃ i, Try.prog.info? 37 = some i ∧ i.size = 4 := by
  obtain ⟨i0, hi0, hz0, hz1, hz2⟩ := info_parts info26
  exact ⟨i0, hi0, hz1⟩

theorem cells26 : Try.prog.cellsOf 37 = 4 := by kernel_rfl

theorem agg26 (w : World) : (isAgg 37).run Try.prog w = .ok true w := by
  simp [isAgg, run_underlying Try.underlying37 w]

theorem part26 (xs : Array Value) (o : Nat) (w : World) : (part 37 xs o).run Try.prog w = .ok (.agg (xs.extract o (o + 4))) w := by
  obtain ⟨i, hi, hs⟩ := info26'
  simp [part, agg26, sizeOf, typeInfo, hi, hs]

theorem eqin26 (d : Nat) (a b c e a' b' c' e' : Nat) (w : World) : (Op.equalIn (d + 3) 37 (.agg #[.int .u64 (a : Int), .int .u64 (b : Int), .int .u64 (c : Int), .int .u64 (e : Int)]) (.agg #[.int .u64 (a' : Int), .int .u64 (b' : Int), .int .u64 (c' : Int), .int .u64 (e' : Int)])).run Try.prog w = .ok (decide ((a, b, c, e) = (a', b', c', e'))) w := by
  by_cases h1 : a = a'
  · subst h1
    by_cases h2 : b = b'
    · subst h2
      by_cases h3 : c = c'
      · subst h3
        by_cases h4 : e = e'
        · subst h4
          go_simp
        · have g : (((e : Nat) : Int) == (e' : Int)) = false := by simp; omega
          go_simp
      · have g : (((c : Nat) : Int) == (c' : Int)) = false := by simp; omega
        go_simp
    · have g : (((b : Nat) : Int) == (b' : Int)) = false := by simp; omega
      go_simp
  · have g : (((a : Nat) : Int) == (a' : Int)) = false := by simp; omega
    go_simp

theorem eqItems_C (l m : List Q4) (hl : l.length = 24) (hm : m.length = 24) (d : Nat) (w : World) : ∀ is : List Nat, (∀ i ∈ is, i < 24) →
    (Op.eqItems (d + 3) 37 4 (tdc l).toArray (tdc m).toArray is).run Try.prog w = .ok (is.all fun i => decide (l[i]? = m[i]?)) w
  | [], _ => by simp [Op.eqItems]
  | i :: is, h => by
    have hi : i < 24 := h i (by simp)
    obtain ⟨⟨a, b, c, e⟩, hp⟩ : ∃ p, l[i]? = some p := ⟨_, List.getElem?_eq_getElem (by omega)⟩
    obtain ⟨⟨a', b', c', e'⟩, hq⟩ : ∃ p, m[i]? = some p := ⟨_, List.getElem?_eq_getElem (by omega)⟩
    simp only [Op.eqItems, Sem.run_bind, part26, Result.andThen_ok, ext4 l i _ hp, ext4 m i _ hq, eqin26, hp, hq]
    have ih := eqItems_C l m hl hm d w is (fun j hj => h j (by simp [hj]))
    by_cases e1 : (a, b, c, e) = (a', b', c', e')
    · rw [decide_eq_true e1]
      have e2 : decide (some (a, b, c, e) = some (a', b', c', e')) = true := by rw [e1]; simp
      simp only [Bool.not_true, Bool.false_eq_true, if_false, List.all_cons, hp, hq, e2, Bool.true_and]
      exact ih
    · rw [decide_eq_false e1]
      have e2 : decide (some (a, b, c, e) = some (a', b', c', e')) = false := by simpa using e1
      simp only [Bool.not_false, if_true, Sem.run_pure, List.all_cons, hp, hq, e2, Bool.false_and]

theorem all_sameC (l m : List Q4) (hl : l.length = 24) (hm : m.length = 24) : ((List.range 24).all fun i => decide (l[i]? = m[i]?)) = decide (l = m) := by
  by_cases h : l = m
  · subst h; simp
  · rw [decide_eq_false h, Bool.eq_false_iff]
    intro e
    apply h
    apply List.ext_getElem?
    intro i
    by_cases hi : i < 24
    · have := List.all_eq_true.1 e i (by simpa using hi)
      simpa using this
    · rw [List.getElem?_eq_none (by omega), List.getElem?_eq_none (by omega)]

theorem run_ceqIn (l m : List Q4) (hl : l.length = 24) (hm : m.length = 24) (w : World) :
    (Op.equalIn 10000 39 (.agg (tdc l).toArray) (.agg (tdc m).toArray)).run Try.prog w = .ok (decide (l = m)) w := by
  obtain ⟨i, hi, _⟩ := info26'
  rw [run_equalIn_array w 9999 (tdc l).toArray (tdc m).toArray Try.underlying39 hi, cells26, eqItems_C l m hl hm 9996 w (List.range 24) (by simp), all_sameC l m hl hm]
end

section
open Go Go.RowKit
set_option linter.unusedVariables false
set_option linter.unusedSimpArgs false
open Go Go.RowKit Go.ChangeShapes Go.WideShapes

theorem pairs_list : ∀ (n : Nat) (cs : List Value), cs.length = n * 2 → (∀ i, i < n → ∃ a b : Nat, (cs.drop (i * 2)).take 2 = [.int .u64 (a : Int), .int .u64 (b : Int)] ∧ a < 18446744073709551616 ∧ b < 18446744073709551616) →
    ∃ l : List (Nat × Nat), l.length = n ∧ cs = wdc l ∧ ∀ p ∈ l, p.1 < 18446744073709551616 ∧ p.2 < 18446744073709551616
  | 0, cs, hl, _ => by
    have : cs = [] := List.eq_nil_of_length_eq_zero (by omega)
    subst this
    exact ⟨[], rfl, rfl, fun p hp => by cases hp⟩
  | n + 1, cs, hl, h => by
    match cs, hl with
    | [], hl => simp at hl
    | [c], hl => simp at hl; omega
    | c0 :: c1 :: r, hl =>
      obtain ⟨a, b, e, ha, hb⟩ := h 0 (by omega)
      simp at e
      obtain ⟨rfl, rfl⟩ := e
      obtain ⟨l, h1, h2, h3⟩ := pairs_list n r (by simp at hl; omega) (fun i hi => by
        have := h (i + 1) (by omega)
        rw [show (i + 1) * 2 = i * 2 + 1 + 1 by omega] at this
        simpa using this)
      subst h2
      refine ⟨(a, b) :: l, by simp [h1], rfl, fun p hp => ?_⟩
      rcases List.mem_cons.1 hp with rfl | hp
      · exact ⟨ha, hb⟩
      · exact h3 p hp

theorem okWide_arr {P : Program} {w : World} {r : Reach} {base : Nat} {t : TypeId} {v : Value} {n : Nat} {e : TypeId} (ht : P.underlying t = some (.array n e)) (h : Value.okWide P w r base t v) : ∃ cs, v = .agg cs ∧ cs.size = P.cellsOf t := by
  simp only [Value.okWide, ht] at h
  obtain ⟨cs, h1, h2, _⟩ := h
  exact ⟨cs, h1, h2⟩

theorem open_hdr {H : Type} {enc : TypeId × Value → H} {W : World} {r : Reach} {b0 base : Nat} {spare : Nat → Bool} {held : Bool} {v : Value} {d : DataW H} {p : List MemPlace}
    (hv' : Value.okWide Try.prog W r b0 48 v) (h : DataW.Trod enc Try.prog W base spare held 48 v d p) : ∃ l, v = hv l ∧ isH l := by
  obtain ⟨cs, rfl, hsz⟩ := okWide_arr Try.underlying48 hv'
  have h42 : Try.prog.cellsOf 48 = 48 := by kernel_rfl
  have h39 : Try.prog.cellsOf 35 = 2 := by kernel_rfl
  obtain ⟨fuel, hf⟩ := h
  obtain ⟨xs, m, _, _, hl, hxl, hx⟩ := DataW.trod_array Try.underlying48 hf
  obtain ⟨l, h1, h2, h3⟩ := pairs_list 24 cs.toList (by simp [hsz, h42]) (fun i hi => by
    have e := hx i hi
    rw [h39, List.getElem?_eq_getElem (by omega)] at e
    obtain ⟨y0, y1, n, _, hl2, e0, e1⟩ := trod_struct2 Try.underlying35 e
    obtain ⟨a, ea, _, wa⟩ := DataW.trod_int Try.underlying33 e0
    obtain ⟨b, eb, _, wb⟩ := DataW.trod_int Try.underlying33 e1
    obtain ⟨A, rfl, gA⟩ := u64_nat wa
    obtain ⟨B, rfl, gB⟩ := u64_nat wb
    refine ⟨A, B, ?_, gA, gB⟩
    rw [h39] at hl2
    have h37 : Try.prog.cellsOf 33 = 1 := by kernel_rfl
    generalize hq : List.take 2 (List.drop (i * 2) (Value.agg cs).cells.toList) = q at *
    have hq' : List.take 2 (List.drop (i * 2) cs.toList) = q := hq
    rw [hq']
    match q, hl2 with
    | [c0, c1], _ =>
      simp [h37] at ea eb
      rw [ea, eb])
  refine ⟨l, ?_, h1, h3⟩
  unfold hv
  rw [← h2]
end

end Go.Proofs.Ytcffebkebldjcaa
