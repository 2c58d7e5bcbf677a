import Derived.Test.YtkhpbkdblhcepaaProg
import Derived.Test.YtkhpbkdblhcepaaXad
import Derived.Below
import Derived.BigQuiet
import Derived.BigRegion
import Derived.Deep.QuietTactic
import Derived.Deep.RegionHeld3
import Derived.Deep.RegionLaw
import Derived.Deep.RegionLawGrows
import Derived.Handy
import Derived.Laws.AppendOwn
import Derived.Laws.AppendOwnNone
import Derived.Laws.BitsAllLaws
import Derived.Laws.BitsLemmas
import Derived.Laws.CopyOwn
import Derived.Laws.OwnMore
import Derived.Laws.Rows
import Derived.Laws.StructEq
import Derived.OpenShut
import Derived.ProofKit
import Derived.RegionTactic
import Derived.WalkKit
import Derived.WalkLawsBesides
import Derived.WalkSmall
import Derived.WalkSpells
namespace Go.Proofs.Ytkhpbkdblhcepaa
section
open Go Go.RowKit
set_option linter.unusedVariables false
set_option linter.unusedSimpArgs false
open Go.RowKit

theorem heap_new (w : World) (o : Obj) : (w.alloc o).drew.heap[w.heap.size]? = some o := by
  show (w.heap.push o)[w.heap.size]? = some o
  simp

theorem cell_new (w : World) (o : Obj) (b k : Nat) (v : Value) (h : w.cell? ⟨b, k, none⟩ = some v) : (w.alloc o).drew.cell? ⟨b, k, none⟩ = some v := by
  exact cell_later (wx := (w.alloc o).drew) (by go_grown) h

theorem cells4 {w : World} {g : Nat} {a b c d : Value} {t : TypeId} (h : w.heap[g]? = some (.cells #[a, b, c, d] t)) :
    w.cell? ⟨g, 0, none⟩ = some a ∧ w.cell? ⟨g, 1, none⟩ = some b ∧ w.cell? ⟨g, 2, none⟩ = some c ∧ w.cell? ⟨g, 3, none⟩ = some d := by
  simp [World.cell?, h]

theorem one_u8 (z : Int) : (Value.int .u8 z).oneCell' = true := rfl

theorem ret_int2 {k l : IntKind} {a b c : Int} (h : a = b) : Ending.returned (.tuple #[.int k a, .int l c]) = .returned (.tuple #[.int k b, .int l c]) := by rw [h]

theorem src1 (b off k : Nat) (z0 : Int) (w : World) (o : Obj) (hc0 : w.cell? ⟨b, off + k, none⟩ = some (.int .u8 z0)) :
    ∀ (j : Nat) (v : Value), ([.int .u8 z0] : List Value)[j]? = some v → (w.alloc o).drew.cell? ((⟨b, off + k, none⟩ : Addr).add j) = some v := fun j v h =>
  match j, v, h with
    | 0, v, h => by cases h; exact cell_new _ _ _ _ _ hc0
    | j + 1, v, h => by simp at h

set_option maxHeartbeats 1000000 in
theorem get_ok1 (b off len cap k : Nat) (z0 : Int) (w : World) (hz0 : 0 ≤ z0 ∧ z0 ≤ 255) (hk : k + 1 ≤ len) (hl : len ≤ cap) (hm : cap ≤ maxLen) (hc0 : w.cell? ⟨b, off + k, none⟩ = some (.int .u8 z0)) :
    Calls Try.prog 94 #[.slice (some ⟨b, off, none⟩) len cap, .int .i64 k, .int .i64 1] w fun e w' => e = .returned (.tuple #[.int .i64 z0, .int .i64 0]) ∧ Below w.heap.size w w' := by
  unfold maxLen at hm
  have S : Hid _ := (src1 b off k z0 w (.cells #[.int .u8 0, .int .u8 0, .int .u8 0, .int .u8 0] 150) hc0)
  clear hc0
  have h1 : ¬ ((k : Int) < 0) := by omega
  have h2 : ¬ ((len : Int) - 1 < (k : Int)) := by omega
  go_enter Try.func94, Try.ntmps94
  go_wp2_with (go_at_call 133; refine (isSize_any _ _).mono ?_; rintro e w' ⟨rfl, rfl⟩)
  clear h1 h2
  have e3 : IntKind.i64.wrap 3 = 3 := by decide
  have e4 : IntKind.i64.wrap ((k : Int) + 1) = (k : Int) + 1 := by rw [IntKind.wrap_i64]; omega
  have f1 : (0 : Int) ≤ (k : Int) + 1 := by omega
  have f2 : (k : Int) + 1 ≤ (cap : Int) := by omega
  have f3 : ¬ cap = k := by omega
  have f4 : (k : Int) ≤ (k : Int) + 1 := by omega
  have f5 : ((k : Int) + 1).toNat - k = 1 := by omega
  go_region_law (refine step_copy_splice rfl (.tmp 24) (.tmp 30) 24 24 rfl 5 Try.underlying24 (by kernel_rfl) (some ⟨w.heap.size, 3, none⟩) (some ⟨b, off + k, none⟩) 1 1 1 (cap - k) (by simp [Act.eval, Act.put]) (by simp [Act.eval, Act.put]) w.heap.size 3 [.int .u8 0, .int .u8 0, .int .u8 0, .int .u8 0] 150 (heap_new w _) [.int .u8 z0] (by simp) (fun _ => ⟨rfl, _, rfl, S.out⟩) (by simp) (by simp [one_u8]) w.heap.size w (by go_grown) (Nat.le_refl _) ?_; intro w2 H2 hB)
  have H3 : w2.heap[w.heap.size]? = some (.cells #[.int .u8 0, .int .u8 0, .int .u8 0, .int .u8 z0] 150) := by have := H2.out; simpa [splice] using this
  obtain ⟨c0, c1, c2, c3⟩ := cells4 H3
  clear H2 H3 f1 f2 f3 f4 f5 e3 e4 S
  go_wp2_with (go_at_call 134; refine (read_any 0 0 0 z0 _ (by omega) (by omega) (by omega) hz0).mono ?_; rintro e w3 ⟨rfl, hb3⟩)
  go_ret2
  exact ⟨ret_int2 (by omega), hB.trans (hb3.mono hB.size)⟩

theorem src2 (b off k : Nat) (z0 z1 : Int) (w : World) (o : Obj) (hc0 : w.cell? ⟨b, off + k, none⟩ = some (.int .u8 z0)) (hc1 : w.cell? ⟨b, off + k + 1, none⟩ = some (.int .u8 z1)) :
    ∀ (j : Nat) (v : Value), ([.int .u8 z0, .int .u8 z1] : List Value)[j]? = some v → (w.alloc o).drew.cell? ((⟨b, off + k, none⟩ : Addr).add j) = some v := fun j v h =>
  match j, v, h with
    | 0, v, h => by cases h; exact cell_new _ _ _ _ _ hc0
    | 1, v, h => by cases h; exact cell_new _ _ _ _ _ hc1
    | j + 2, v, h => by simp at h

set_option maxHeartbeats 1000000 in
theorem get_ok2 (b off len cap k : Nat) (z0 z1 : Int) (w : World) (hz0 : 0 ≤ z0 ∧ z0 ≤ 255) (hz1 : 0 ≤ z1 ∧ z1 ≤ 255) (hk : k + 2 ≤ len) (hl : len ≤ cap) (hm : cap ≤ maxLen) (hc0 : w.cell? ⟨b, off + k, none⟩ = some (.int .u8 z0)) (hc1 : w.cell? ⟨b, off + k + 1, none⟩ = some (.int .u8 z1)) :
    Calls Try.prog 94 #[.slice (some ⟨b, off, none⟩) len cap, .int .i64 k, .int .i64 2] w fun e w' => e = .returned (.tuple #[.int .i64 (z0 * 256 + z1), .int .i64 0]) ∧ Below w.heap.size w w' := by
  unfold maxLen at hm
  have S : Hid _ := (src2 b off k z0 z1 w (.cells #[.int .u8 0, .int .u8 0, .int .u8 0, .int .u8 0] 150) hc0 hc1)
  clear hc0 hc1
  have h1 : ¬ ((k : Int) < 0) := by omega
  have h2 : ¬ ((len : Int) - 2 < (k : Int)) := by omega
  go_enter Try.func94, Try.ntmps94
  go_wp2_with (go_at_call 133; refine (isSize_any _ _).mono ?_; rintro e w' ⟨rfl, rfl⟩)
  clear h1 h2
  have e3 : IntKind.i64.wrap 2 = 2 := by decide
  have e4 : IntKind.i64.wrap ((k : Int) + 2) = (k : Int) + 2 := by rw [IntKind.wrap_i64]; omega
  have f1 : (0 : Int) ≤ (k : Int) + 2 := by omega
  have f2 : (k : Int) + 2 ≤ (cap : Int) := by omega
  have f3 : ¬ cap = k := by omega
  have f4 : (k : Int) ≤ (k : Int) + 2 := by omega
  have f5 : ((k : Int) + 2).toNat - k = 2 := by omega
  go_region_law (refine step_copy_splice rfl (.tmp 24) (.tmp 30) 24 24 rfl 5 Try.underlying24 (by kernel_rfl) (some ⟨w.heap.size, 2, none⟩) (some ⟨b, off + k, none⟩) 2 2 2 (cap - k) (by simp [Act.eval, Act.put]) (by simp [Act.eval, Act.put]) w.heap.size 2 [.int .u8 0, .int .u8 0, .int .u8 0, .int .u8 0] 150 (heap_new w _) [.int .u8 z0, .int .u8 z1] (by simp) (fun _ => ⟨rfl, _, rfl, S.out⟩) (by simp) (by simp [one_u8]) w.heap.size w (by go_grown) (Nat.le_refl _) ?_; intro w2 H2 hB)
  have H3 : w2.heap[w.heap.size]? = some (.cells #[.int .u8 0, .int .u8 0, .int .u8 z0, .int .u8 z1] 150) := by have := H2.out; simpa [splice] using this
  obtain ⟨c0, c1, c2, c3⟩ := cells4 H3
  clear H2 H3 f1 f2 f3 f4 f5 e3 e4 S
  go_wp2_with (go_at_call 134; refine (read_any 0 0 z0 z1 _ (by omega) (by omega) hz0 hz1).mono ?_; rintro e w3 ⟨rfl, hb3⟩)
  go_ret2
  exact ⟨ret_int2 (by omega), hB.trans (hb3.mono hB.size)⟩

theorem src4 (b off k : Nat) (z0 z1 z2 z3 : Int) (w : World) (o : Obj) (hc0 : w.cell? ⟨b, off + k, none⟩ = some (.int .u8 z0)) (hc1 : w.cell? ⟨b, off + k + 1, none⟩ = some (.int .u8 z1)) (hc2 : w.cell? ⟨b, off + k + 2, none⟩ = some (.int .u8 z2)) (hc3 : w.cell? ⟨b, off + k + 3, none⟩ = some (.int .u8 z3)) :
    ∀ (j : Nat) (v : Value), ([.int .u8 z0, .int .u8 z1, .int .u8 z2, .int .u8 z3] : List Value)[j]? = some v → (w.alloc o).drew.cell? ((⟨b, off + k, none⟩ : Addr).add j) = some v := fun j v h =>
  match j, v, h with
    | 0, v, h => by cases h; exact cell_new _ _ _ _ _ hc0
    | 1, v, h => by cases h; exact cell_new _ _ _ _ _ hc1
    | 2, v, h => by cases h; exact cell_new _ _ _ _ _ hc2
    | 3, v, h => by cases h; exact cell_new _ _ _ _ _ hc3
    | j + 4, v, h => by simp at h

set_option maxHeartbeats 1000000 in
theorem get_ok4 (b off len cap k : Nat) (z0 z1 z2 z3 : Int) (w : World) (hz0 : 0 ≤ z0 ∧ z0 ≤ 255) (hz1 : 0 ≤ z1 ∧ z1 ≤ 255) (hz2 : 0 ≤ z2 ∧ z2 ≤ 255) (hz3 : 0 ≤ z3 ∧ z3 ≤ 255) (hk : k + 4 ≤ len) (hl : len ≤ cap) (hm : cap ≤ maxLen) (hc0 : w.cell? ⟨b, off + k, none⟩ = some (.int .u8 z0)) (hc1 : w.cell? ⟨b, off + k + 1, none⟩ = some (.int .u8 z1)) (hc2 : w.cell? ⟨b, off + k + 2, none⟩ = some (.int .u8 z2)) (hc3 : w.cell? ⟨b, off + k + 3, none⟩ = some (.int .u8 z3)) :
    Calls Try.prog 94 #[.slice (some ⟨b, off, none⟩) len cap, .int .i64 k, .int .i64 4] w fun e w' => e = .returned (.tuple #[.int .i64 (((z0 * 256 + z1) * 256 + z2) * 256 + z3), .int .i64 0]) ∧ Below w.heap.size w w' := by
  unfold maxLen at hm
  have S : Hid _ := (src4 b off k z0 z1 z2 z3 w (.cells #[.int .u8 0, .int .u8 0, .int .u8 0, .int .u8 0] 150) hc0 hc1 hc2 hc3)
  clear hc0 hc1 hc2 hc3
  have h1 : ¬ ((k : Int) < 0) := by omega
  have h2 : ¬ ((len : Int) - 4 < (k : Int)) := by omega
  go_enter Try.func94, Try.ntmps94
  go_wp2_with (go_at_call 133; refine (isSize_any _ _).mono ?_; rintro e w' ⟨rfl, rfl⟩)
  clear h1 h2
  have e3 : IntKind.i64.wrap 0 = 0 := by decide
  have e4 : IntKind.i64.wrap ((k : Int) + 4) = (k : Int) + 4 := by rw [IntKind.wrap_i64]; omega
  have f1 : (0 : Int) ≤ (k : Int) + 4 := by omega
  have f2 : (k : Int) + 4 ≤ (cap : Int) := by omega
  have f3 : ¬ cap = k := by omega
  have f4 : (k : Int) ≤ (k : Int) + 4 := by omega
  have f5 : ((k : Int) + 4).toNat - k = 4 := by omega
  go_region_law (refine step_copy_splice rfl (.tmp 24) (.tmp 30) 24 24 rfl 5 Try.underlying24 (by kernel_rfl) (some ⟨w.heap.size, 0, none⟩) (some ⟨b, off + k, none⟩) 4 4 4 (cap - k) (by simp [Act.eval, Act.put]) (by simp [Act.eval, Act.put]) w.heap.size 0 [.int .u8 0, .int .u8 0, .int .u8 0, .int .u8 0] 150 (heap_new w _) [.int .u8 z0, .int .u8 z1, .int .u8 z2, .int .u8 z3] (by simp) (fun _ => ⟨rfl, _, rfl, S.out⟩) (by simp) (by simp [one_u8]) w.heap.size w (by go_grown) (Nat.le_refl _) ?_; intro w2 H2 hB)
  have H3 : w2.heap[w.heap.size]? = some (.cells #[.int .u8 z0, .int .u8 z1, .int .u8 z2, .int .u8 z3] 150) := by have := H2.out; simpa [splice] using this
  obtain ⟨c0, c1, c2, c3⟩ := cells4 H3
  clear H2 H3 f1 f2 f3 f4 f5 e3 e4 S
  go_wp2_with (go_at_call 134; refine (read_any z0 z1 z2 z3 _ hz0 hz1 hz2 hz3).mono ?_; rintro e w3 ⟨rfl, hb3⟩)
  go_ret2
  exact ⟨ret_int2 (by omega), hB.trans (hb3.mono hB.size)⟩
end

section
open Go Go.RowKit
set_option linter.unusedVariables false
set_option linter.unusedSimpArgs false
open Go.RowKit

theorem szB_true {s : Int} (h : szB s = true) : s = 1 ∨ s = 2 ∨ s = 4 := by
  simp [szB] at h; omega

set_option maxHeartbeats 400000 in
theorem get_short (a : Option Addr) (len cap : Nat) (k s : Int) (w : World) (hm : len ≤ maxLen) (hs : szB s = true) (h0 : 0 ≤ k) (h : (len : Int) - s < k) :
    Calls Try.prog 94 #[.slice a len cap, .int .i64 k, .int .i64 s] w fun e w' => e = .returned (.tuple #[.int .i64 0, .int .i64 3]) ∧ w = w' := by
  unfold maxLen at hm
  have h1 := szB_true hs
  have h2 : 1 ≤ s ∧ s ≤ 4 := by omega
  clear h1
  have h3 : ¬ k < 0 := by omega
  go_enter Try.func94, Try.ntmps94
  go_wp2_with (go_at_call 133; refine (isSize_any _ _).mono ?_; rintro e w' ⟨rfl, rfl⟩)
  go_ret2
  exact ⟨rfl, rfl⟩
end

section
open Go Go.RowKit
set_option linter.unusedVariables false
set_option linter.unusedSimpArgs false
open Go.RowKit

theorem szB_false {s : Int} (h : szB s = false) : ¬ s = 1 ∧ ¬ s = 2 ∧ ¬ s = 4 := by
  simp [szB] at h; omega

set_option maxHeartbeats 400000 in
theorem rget_short (a : Option Addr) (len cap : Nat) (k s : Int) (w : World) (hm : len ≤ maxLen) (hs : szB s = true) (h0 : 0 ≤ k) (h : (len : Int) - s < k) :
    Calls Try.prog 130 #[.slice a len cap, .int .i64 k, .int .i64 s] w fun e w' => e = .returned (.tuple #[.int .i64 0, .int .i64 3]) ∧ w = w' := by
  unfold maxLen at hm
  have h3 : ¬ k < 0 := by omega
  by_cases hl : (len : Int) < k
  · rcases szB_true hs with rfl | rfl | rfl
    all_goals
      clear hs
      go_enter Try.func130, Try.ntmps130
      go_wp2
      go_ret2
      exact ⟨rfl, rfl⟩
  · have h4 : (len : Int) - k < s := by omega
    rcases szB_true hs with rfl | rfl | rfl
    all_goals
      clear hs
      go_enter Try.func130, Try.ntmps130
      go_wp2
      go_ret2
      exact ⟨rfl, rfl⟩

set_option maxHeartbeats 1000000 in
theorem rget_ok2 (b off len cap k : Nat) (z0 z1 : Int) (w : World) (hz0 : 0 ≤ z0 ∧ z0 ≤ 255) (hz1 : 0 ≤ z1 ∧ z1 ≤ 255) (hk : k + 2 ≤ len) (hl : len ≤ cap) (hm : cap ≤ maxLen) (hc0 : w.cell? ⟨b, off + k, none⟩ = some (.int .u8 z0)) (hc1 : w.cell? ⟨b, off + k + 1, none⟩ = some (.int .u8 z1)) :
    Calls Try.prog 130 #[.slice (some ⟨b, off, none⟩) len cap, .int .i64 k, .int .i64 2] w fun e w' => e = .returned (.tuple #[.int .i64 (z0 * 256 + z1), .int .i64 0]) ∧ w = w' := by
  unfold maxLen at hm
  rw [Nat.add_assoc] at hc1
  have h1 : ¬ ((k : Int) < 0) := by omega
  have h2 : ¬ ((len : Int) < (k : Int)) := by omega
  have h3 : ¬ ((len : Int) - (k : Int) < 2) := by omega
  go_enter Try.func130, Try.ntmps130
  go_wp2
  go_rounds 3
  go_ret2
  exact ⟨ret_int2 (by omega), rfl⟩

set_option maxHeartbeats 1000000 in
theorem rget_ok4 (b off len cap k : Nat) (z0 z1 z2 z3 : Int) (w : World) (hz0 : 0 ≤ z0 ∧ z0 ≤ 255) (hz1 : 0 ≤ z1 ∧ z1 ≤ 255) (hz2 : 0 ≤ z2 ∧ z2 ≤ 255) (hz3 : 0 ≤ z3 ∧ z3 ≤ 255) (hk : k + 4 ≤ len) (hl : len ≤ cap) (hm : cap ≤ maxLen) (hc0 : w.cell? ⟨b, off + k, none⟩ = some (.int .u8 z0)) (hc1 : w.cell? ⟨b, off + k + 1, none⟩ = some (.int .u8 z1)) (hc2 : w.cell? ⟨b, off + k + 2, none⟩ = some (.int .u8 z2)) (hc3 : w.cell? ⟨b, off + k + 3, none⟩ = some (.int .u8 z3)) :
    Calls Try.prog 130 #[.slice (some ⟨b, off, none⟩) len cap, .int .i64 k, .int .i64 4] w fun e w' => e = .returned (.tuple #[.int .i64 (((z0 * 256 + z1) * 256 + z2) * 256 + z3), .int .i64 0]) ∧ w = w' := by
  unfold maxLen at hm
  rw [Nat.add_assoc] at hc1
  rw [Nat.add_assoc] at hc2
  rw [Nat.add_assoc] at hc3
  have h1 : ¬ ((k : Int) < 0) := by omega
  have h2 : ¬ ((len : Int) < (k : Int)) := by omega
  have h3 : ¬ ((len : Int) - (k : Int) < 4) := by omega
  go_enter Try.func130, Try.ntmps130
  go_wp2
  go_rounds 5
  go_ret2
  exact ⟨ret_int2 (by omega), rfl⟩
end

section
open Go Go.RowKit
set_option linter.unusedVariables false
set_option linter.unusedSimpArgs false
open Go.RowKit

/-- the greatest number of a size, and one -/
def lim (s : Int) : Int := if s = 1 then 256 else if s = 2 then 65536 else 4294967296

/-- a number is of a size -/
def rightB (n s : Int) : Bool := szB s && (decide (0 ≤ n) && decide (n < lim s))

theorem rightB_not {n s : Int} (h : szB s = false) : rightB n s = false := by simp [rightB, h]

theorem rightB_neg {n s : Int} (h : ¬ 0 ≤ n) : rightB n s = false := by simp [rightB, h]

theorem rightB_in1 {n : Int} (h0 : 0 ≤ n) (h : n < 256) : rightB n 1 = true := by simp [rightB, szB, lim, h0, h]

theorem rightB_out1 {n : Int} (h : ¬ n < 256) : rightB n 1 = false := by simp [rightB, szB, lim]; omega

theorem rightB_in2 {n : Int} (h0 : 0 ≤ n) (h : n < 65536) : rightB n 2 = true := by simp [rightB, szB, lim, h0, h]

theorem rightB_out2 {n : Int} (h : ¬ n < 65536) : rightB n 2 = false := by simp [rightB, szB, lim]; omega

theorem rightB_in4 {n : Int} (h0 : 0 ≤ n) (h : n < 4294967296) : rightB n 4 = true := by simp [rightB, szB, lim, h0, h]

theorem rightB_out4 {n : Int} (h : ¬ n < 4294967296) : rightB n 4 = false := by simp [rightB, szB, lim]; omega

set_option maxHeartbeats 400000 in
theorem right_1 (n : Int) (w : World) :
    Calls Try.prog 104 #[.int .i64 n, .int .i64 1] w fun e w' => e = .returned (.bool (rightB n 1)) ∧ w = w' := by
  have hs : szB 1 = true := rfl
  by_cases h0 : 0 ≤ n
  · by_cases h1 : n < 256
    · rw [rightB_in1 h0 h1]
      have hd : decide (n < 256) = true := by simpa using h1
      have hd2 : decide (n ≤ 255) = true := by simp; omega
      go_enter Try.func104, Try.ntmps104
      go_wp2_with (go_at_call 133; refine (isSize_any _ _).mono ?_; rintro e w' ⟨rfl, rfl⟩)
      go_ret
      exact ⟨rfl, rfl⟩
    · rw [rightB_out1 h1]
      have hd : decide (n < 256) = false := by simpa using h1
      have hd2 : decide (n ≤ 255) = false := by simp; omega
      go_enter Try.func104, Try.ntmps104
      go_wp2_with (go_at_call 133; refine (isSize_any _ _).mono ?_; rintro e w' ⟨rfl, rfl⟩)
      go_ret
      exact ⟨rfl, rfl⟩
  · rw [rightB_neg h0]
    have hd : decide (0 ≤ n) = false := by simpa using h0
    go_enter Try.func104, Try.ntmps104
    go_wp2_with (go_at_call 133; refine (isSize_any _ _).mono ?_; rintro e w' ⟨rfl, rfl⟩)
    go_ret
    exact ⟨rfl, rfl⟩

set_option maxHeartbeats 400000 in
theorem right_2 (n : Int) (w : World) :
    Calls Try.prog 104 #[.int .i64 n, .int .i64 2] w fun e w' => e = .returned (.bool (rightB n 2)) ∧ w = w' := by
  have hs : szB 2 = true := rfl
  by_cases h0 : 0 ≤ n
  · by_cases h1 : n < 65536
    · rw [rightB_in2 h0 h1]
      have hd : decide (n < 65536) = true := by simpa using h1
      have hd2 : decide (n ≤ 65535) = true := by simp; omega
      go_enter Try.func104, Try.ntmps104
      go_wp2_with (go_at_call 133; refine (isSize_any _ _).mono ?_; rintro e w' ⟨rfl, rfl⟩)
      go_ret
      exact ⟨rfl, rfl⟩
    · rw [rightB_out2 h1]
      have hd : decide (n < 65536) = false := by simpa using h1
      have hd2 : decide (n ≤ 65535) = false := by simp; omega
      go_enter Try.func104, Try.ntmps104
      go_wp2_with (go_at_call 133; refine (isSize_any _ _).mono ?_; rintro e w' ⟨rfl, rfl⟩)
      go_ret
      exact ⟨rfl, rfl⟩
  · rw [rightB_neg h0]
    have hd : decide (0 ≤ n) = false := by simpa using h0
    go_enter Try.func104, Try.ntmps104
    go_wp2_with (go_at_call 133; refine (isSize_any _ _).mono ?_; rintro e w' ⟨rfl, rfl⟩)
    go_ret
    exact ⟨rfl, rfl⟩

set_option maxHeartbeats 400000 in
theorem right_4 (n : Int) (w : World) :
    Calls Try.prog 104 #[.int .i64 n, .int .i64 4] w fun e w' => e = .returned (.bool (rightB n 4)) ∧ w = w' := by
  have hs : szB 4 = true := rfl
  by_cases h0 : 0 ≤ n
  · by_cases h1 : n < 4294967296
    · rw [rightB_in4 h0 h1]
      have hd : decide (n < 4294967296) = true := by simpa using h1
      have hd2 : decide (n ≤ 4294967295) = true := by simp; omega
      go_enter Try.func104, Try.ntmps104
      go_wp2_with (go_at_call 133; refine (isSize_any _ _).mono ?_; rintro e w' ⟨rfl, rfl⟩)
      go_ret
      exact ⟨rfl, rfl⟩
    · rw [rightB_out4 h1]
      have hd : decide (n < 4294967296) = false := by simpa using h1
      have hd2 : decide (n ≤ 4294967295) = false := by simp; omega
      go_enter Try.func104, Try.ntmps104
      go_wp2_with (go_at_call 133; refine (isSize_any _ _).mono ?_; rintro e w' ⟨rfl, rfl⟩)
      go_ret
      exact ⟨rfl, rfl⟩
  · rw [rightB_neg h0]
    have hd : decide (0 ≤ n) = false := by simpa using h0
    go_enter Try.func104, Try.ntmps104
    go_wp2_with (go_at_call 133; refine (isSize_any _ _).mono ?_; rintro e w' ⟨rfl, rfl⟩)
    go_ret
    exact ⟨rfl, rfl⟩

set_option maxHeartbeats 400000 in
theorem right_any (n s : Int) (w : World) :
    Calls Try.prog 104 #[.int .i64 n, .int .i64 s] w fun e w' => e = .returned (.bool (rightB n s)) ∧ w = w' := by
  cases hs : szB s
  · obtain ⟨g1, g2, g4⟩ := szB_false hs
    have e1 : (s == 1) = false := by simpa using g1
    have e2 : (s == 2) = false := by simpa using g2
    have e4 : (s == 4) = false := by simpa using g4
    rw [rightB_not hs]
    clear g1 g2 g4
    go_enter Try.func104, Try.ntmps104
    go_wp2_with (go_at_call 133; refine (isSize_any _ _).mono ?_; rintro e w' ⟨rfl, rfl⟩)
    go_ret
    exact ⟨rfl, rfl⟩
  · rcases szB_true hs with rfl | rfl | rfl
    · exact right_1 n w
    · exact right_2 n w
    · exact right_4 n w

set_option maxHeartbeats 400000 in
theorem spell_any (n : Int) (w : World) (h0 : 0 ≤ n) (h1 : n < 4294967296) :
    Calls Try.prog 114 #[.int .i64 n] w fun e w' => e = .returned (.agg #[.int .u8 (n / 16777216), .int .u8 (n / 65536 % 256), .int .u8 (n / 256 % 256), .int .u8 (n % 256)]) ∧ Below w.heap.size w w' := by
  go_enter Try.func114, Try.ntmps114
  go_wp2
  go_rounds 5
  go_returns
  exact ⟨rfl, by go_grown⟩
end

end Go.Proofs.Ytkhpbkdblhcepaa

