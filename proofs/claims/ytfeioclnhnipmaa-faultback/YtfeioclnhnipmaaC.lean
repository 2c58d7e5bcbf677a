import Derived.Test.YtfeioclnhnipmaaProg
import Derived.Test.YtfeioclnhnipmaaA
import Derived.Test.YtfeioclnhnipmaaB
import Derived.Below
import Derived.BigQuiet
import Derived.BigRegion
import Derived.Deep.QuietTactic
import Derived.Deep.RegionHeld3
import Derived.Deep.RegionLaw
import Derived.Deep.RegionLawGrows
import Derived.Handy
import Derived.Laws.AppendOwn
import Derived.Laws.AppendOwnNone
import Derived.Laws.BitsAllLaws
import Derived.Laws.BitsLemmas
import Derived.Laws.CopyOwn
import Derived.Laws.OwnMore
import Derived.Laws.Rows
import Derived.Laws.StructEq
import Derived.OpenShut
import Derived.ProofKit
import Derived.RegionTactic
import Derived.WalkKit
import Derived.WalkLawsBesides
import Derived.WalkSmall
import Derived.WalkSpells
namespace Go.Proofs.Ytfeioclnhnipmaa
open Go Go.RowKit
set_option linter.unusedVariables false
set_option linter.unusedSimpArgs false
open Go.RowKit

theorem heap_new (w : World) (o : Obj) : (w.alloc o).drew.heap[w.heap.size]? = some o := by
  show (w.heap.push o)[w.heap.size]? = some o
  simp

theorem cell_new (w : World) (o : Obj) (b k : Nat) (v : Value) (h : w.cell? ⟨b, k, none⟩ = some v) : (w.alloc o).drew.cell? ⟨b, k, none⟩ = some v := by
  exact cell_later (wx := (w.alloc o).drew) (by go_grown) h

theorem cells4 {w : World} {g : Nat} {a b c d : Value} {t : TypeId} (h : w.heap[g]? = some (.cells #[a, b, c, d] t)) :
    w.cell? ⟨g, 0, none⟩ = some a ∧ w.cell? ⟨g, 1, none⟩ = some b ∧ w.cell? ⟨g, 2, none⟩ = some c ∧ w.cell? ⟨g, 3, none⟩ = some d := by
  simp [World.cell?, h]

theorem one_u8 (z : Int) : (Value.int .u8 z).oneCell' = true := rfl

theorem ret_int2 {k l : IntKind} {a b c : Int} (h : a = b) : Ending.returned (.tuple #[.int k a, .int l c]) = .returned (.tuple #[.int k b, .int l c]) := by rw [h]

theorem src1 (b off k : Nat) (z0 : Int) (w : World) (o : Obj) (hc0 : w.cell? ⟨b, off + k, none⟩ = some (.int .u8 z0)) :
    ∀ (j : Nat) (v : Value), ([.int .u8 z0] : List Value)[j]? = some v → (w.alloc o).drew.cell? ((⟨b, off + k, none⟩ : Addr).add j) = some v := fun j v h =>
  match j, v, h with
    | 0, v, h => by cases h; exact cell_new _ _ _ _ _ hc0
    | j + 1, v, h => by simp at h

set_option maxHeartbeats 1000000 in
theorem get_ok1 (b off len cap k : Nat) (z0 : Int) (w : World) (hz0 : 0 ≤ z0 ∧ z0 ≤ 255) (hk : k + 1 ≤ len) (hl : len ≤ cap) (hm : cap ≤ maxLen) (hc0 : w.cell? ⟨b, off + k, none⟩ = some (.int .u8 z0)) :
    Calls Try.prog 18 #[.slice (some ⟨b, off, none⟩) len cap, .int .i64 k, .int .i64 1] w fun e w' => e = .returned (.tuple #[.int .i64 z0, .int .i64 0]) ∧ Below w.heap.size w w' := by
  unfold maxLen at hm
  have S : Hid _ := (src1 b off k z0 w (.cells #[.int .u8 0, .int .u8 0, .int .u8 0, .int .u8 0] 53) hc0)
  clear hc0
  have h1 : ¬ ((k : Int) < 0) := by omega
  have h2 : ¬ ((len : Int) - 1 < (k : Int)) := by omega
  go_enter Try.func18, Try.ntmps18
  go_wp2_with (go_at_call 29; refine (isSize_any _ _).mono ?_; rintro e w' ⟨rfl, rfl⟩)
  clear h1 h2
  have e3 : IntKind.i64.wrap 3 = 3 := by decide
  have e4 : IntKind.i64.wrap ((k : Int) + 1) = (k : Int) + 1 := by rw [IntKind.wrap_i64]; omega
  have f1 : (0 : Int) ≤ (k : Int) + 1 := by omega
  have f2 : (k : Int) + 1 ≤ (cap : Int) := by omega
  have f3 : ¬ cap = k := by omega
  have f4 : (k : Int) ≤ (k : Int) + 1 := by omega
  have f5 : ((k : Int) + 1).toNat - k = 1 := by omega
  go_region_law (refine step_copy_splice rfl (.tmp 24) (.tmp 30) 24 24 rfl 5 Try.underlying24 (by kernel_rfl) (some ⟨w.heap.size, 3, none⟩) (some ⟨b, off + k, none⟩) 1 1 1 (cap - k) (by simp [Act.eval, Act.put]) (by simp [Act.eval, Act.put]) w.heap.size 3 [.int .u8 0, .int .u8 0, .int .u8 0, .int .u8 0] 53 (heap_new w _) [.int .u8 z0] (by simp) (fun _ => ⟨rfl, _, rfl, S.out⟩) (by simp) (by simp [one_u8]) w.heap.size w (by go_grown) (Nat.le_refl _) ?_; intro w2 H2 hB)
  have H3 : w2.heap[w.heap.size]? = some (.cells #[.int .u8 0, .int .u8 0, .int .u8 0, .int .u8 z0] 53) := by have := H2.out; simpa [splice] using this
  obtain ⟨c0, c1, c2, c3⟩ := cells4 H3
  clear H2 H3 f1 f2 f3 f4 f5 e3 e4 S
  go_wp2_with (go_at_call 30; refine (read_any 0 0 0 z0 _ (by omega) (by omega) (by omega) hz0).mono ?_; rintro e w3 ⟨rfl, hb3⟩)
  go_ret2
  exact ⟨ret_int2 (by omega), hB.trans (hb3.mono hB.size)⟩

theorem src2 (b off k : Nat) (z0 z1 : Int) (w : World) (o : Obj) (hc0 : w.cell? ⟨b, off + k, none⟩ = some (.int .u8 z0)) (hc1 : w.cell? ⟨b, off + k + 1, none⟩ = some (.int .u8 z1)) :
    ∀ (j : Nat) (v : Value), ([.int .u8 z0, .int .u8 z1] : List Value)[j]? = some v → (w.alloc o).drew.cell? ((⟨b, off + k, none⟩ : Addr).add j) = some v := fun j v h =>
  match j, v, h with
    | 0, v, h => by cases h; exact cell_new _ _ _ _ _ hc0
    | 1, v, h => by cases h; exact cell_new _ _ _ _ _ hc1
    | j + 2, v, h => by simp at h

set_option maxHeartbeats 1000000 in
theorem get_ok2 (b off len cap k : Nat) (z0 z1 : Int) (w : World) (hz0 : 0 ≤ z0 ∧ z0 ≤ 255) (hz1 : 0 ≤ z1 ∧ z1 ≤ 255) (hk : k + 2 ≤ len) (hl : len ≤ cap) (hm : cap ≤ maxLen) (hc0 : w.cell? ⟨b, off + k, none⟩ = some (.int .u8 z0)) (hc1 : w.cell? ⟨b, off + k + 1, none⟩ = some (.int .u8 z1)) :
    Calls Try.prog 18 #[.slice (some ⟨b, off, none⟩) len cap, .int .i64 k, .int .i64 2] w fun e w' => e = .returned (.tuple #[.int .i64 (z0 * 256 + z1), .int .i64 0]) ∧ Below w.heap.size w w' := by
  unfold maxLen at hm
  have S : Hid _ := (src2 b off k z0 z1 w (.cells #[.int .u8 0, .int .u8 0, .int .u8 0, .int .u8 0] 53) hc0 hc1)
  clear hc0 hc1
  have h1 : ¬ ((k : Int) < 0) := by omega
  have h2 : ¬ ((len : Int) - 2 < (k : Int)) := by omega
  go_enter Try.func18, Try.ntmps18
  go_wp2_with (go_at_call 29; refine (isSize_any _ _).mono ?_; rintro e w' ⟨rfl, rfl⟩)
  clear h1 h2
  have e3 : IntKind.i64.wrap 2 = 2 := by decide
  have e4 : IntKind.i64.wrap ((k : Int) + 2) = (k : Int) + 2 := by rw [IntKind.wrap_i64]; omega
  have f1 : (0 : Int) ≤ (k : Int) + 2 := by omega
  have f2 : (k : Int) + 2 ≤ (cap : Int) := by omega
  have f3 : ¬ cap = k := by omega
  have f4 : (k : Int) ≤ (k : Int) + 2 := by omega
  have f5 : ((k : Int) + 2).toNat - k = 2 := by omega
  go_region_law (refine step_copy_splice rfl (.tmp 24) (.tmp 30) 24 24 rfl 5 Try.underlying24 (by kernel_rfl) (some ⟨w.heap.size, 2, none⟩) (some ⟨b, off + k, none⟩) 2 2 2 (cap - k) (by simp [Act.eval, Act.put]) (by simp [Act.eval, Act.put]) w.heap.size 2 [.int .u8 0, .int .u8 0, .int .u8 0, .int .u8 0] 53 (heap_new w _) [.int .u8 z0, .int .u8 z1] (by simp) (fun _ => ⟨rfl, _, rfl, S.out⟩) (by simp) (by simp [one_u8]) w.heap.size w (by go_grown) (Nat.le_refl _) ?_; intro w2 H2 hB)
  have H3 : w2.heap[w.heap.size]? = some (.cells #[.int .u8 0, .int .u8 0, .int .u8 z0, .int .u8 z1] 53) := by have := H2.out; simpa [splice] using this
  obtain ⟨c0, c1, c2, c3⟩ := cells4 H3
  clear H2 H3 f1 f2 f3 f4 f5 e3 e4 S
  go_wp2_with (go_at_call 30; refine (read_any 0 0 z0 z1 _ (by omega) (by omega) hz0 hz1).mono ?_; rintro e w3 ⟨rfl, hb3⟩)
  go_ret2
  exact ⟨ret_int2 (by omega), hB.trans (hb3.mono hB.size)⟩

theorem src4 (b off k : Nat) (z0 z1 z2 z3 : Int) (w : World) (o : Obj) (hc0 : w.cell? ⟨b, off + k, none⟩ = some (.int .u8 z0)) (hc1 : w.cell? ⟨b, off + k + 1, none⟩ = some (.int .u8 z1)) (hc2 : w.cell? ⟨b, off + k + 2, none⟩ = some (.int .u8 z2)) (hc3 : w.cell? ⟨b, off + k + 3, none⟩ = some (.int .u8 z3)) :
    ∀ (j : Nat) (v : Value), ([.int .u8 z0, .int .u8 z1, .int .u8 z2, .int .u8 z3] : List Value)[j]? = some v → (w.alloc o).drew.cell? ((⟨b, off + k, none⟩ : Addr).add j) = some v := fun j v h =>
  match j, v, h with
    | 0, v, h => by cases h; exact cell_new _ _ _ _ _ hc0
    | 1, v, h => by cases h; exact cell_new _ _ _ _ _ hc1
    | 2, v, h => by cases h; exact cell_new _ _ _ _ _ hc2
    | 3, v, h => by cases h; exact cell_new _ _ _ _ _ hc3
    | j + 4, v, h => by simp at h

set_option maxHeartbeats 1000000 in
theorem get_ok4 (b off len cap k : Nat) (z0 z1 z2 z3 : Int) (w : World) (hz0 : 0 ≤ z0 ∧ z0 ≤ 255) (hz1 : 0 ≤ z1 ∧ z1 ≤ 255) (hz2 : 0 ≤ z2 ∧ z2 ≤ 255) (hz3 : 0 ≤ z3 ∧ z3 ≤ 255) (hk : k + 4 ≤ len) (hl : len ≤ cap) (hm : cap ≤ maxLen) (hc0 : w.cell? ⟨b, off + k, none⟩ = some (.int .u8 z0)) (hc1 : w.cell? ⟨b, off + k + 1, none⟩ = some (.int .u8 z1)) (hc2 : w.cell? ⟨b, off + k + 2, none⟩ = some (.int .u8 z2)) (hc3 : w.cell? ⟨b, off + k + 3, none⟩ = some (.int .u8 z3)) :
    Calls Try.prog 18 #[.slice (some ⟨b, off, none⟩) len cap, .int .i64 k, .int .i64 4] w fun e w' => e = .returned (.tuple #[.int .i64 (((z0 * 256 + z1) * 256 + z2) * 256 + z3), .int .i64 0]) ∧ Below w.heap.size w w' := by
  unfold maxLen at hm
  have S : Hid _ := (src4 b off k z0 z1 z2 z3 w (.cells #[.int .u8 0, .int .u8 0, .int .u8 0, .int .u8 0] 53) hc0 hc1 hc2 hc3)
  clear hc0 hc1 hc2 hc3
  have h1 : ¬ ((k : Int) < 0) := by omega
  have h2 : ¬ ((len : Int) - 4 < (k : Int)) := by omega
  go_enter Try.func18, Try.ntmps18
  go_wp2_with (go_at_call 29; refine (isSize_any _ _).mono ?_; rintro e w' ⟨rfl, rfl⟩)
  clear h1 h2
  have e3 : IntKind.i64.wrap 0 = 0 := by decide
  have e4 : IntKind.i64.wrap ((k : Int) + 4) = (k : Int) + 4 := by rw [IntKind.wrap_i64]; omega
  have f1 : (0 : Int) ≤ (k : Int) + 4 := by omega
  have f2 : (k : Int) + 4 ≤ (cap : Int) := by omega
  have f3 : ¬ cap = k := by omega
  have f4 : (k : Int) ≤ (k : Int) + 4 := by omega
  have f5 : ((k : Int) + 4).toNat - k = 4 := by omega
  go_region_law (refine step_copy_splice rfl (.tmp 24) (.tmp 30) 24 24 rfl 5 Try.underlying24 (by kernel_rfl) (some ⟨w.heap.size, 0, none⟩) (some ⟨b, off + k, none⟩) 4 4 4 (cap - k) (by simp [Act.eval, Act.put]) (by simp [Act.eval, Act.put]) w.heap.size 0 [.int .u8 0, .int .u8 0, .int .u8 0, .int .u8 0] 53 (heap_new w _) [.int .u8 z0, .int .u8 z1, .int .u8 z2, .int .u8 z3] (by simp) (fun _ => ⟨rfl, _, rfl, S.out⟩) (by simp) (by simp [one_u8]) w.heap.size w (by go_grown) (Nat.le_refl _) ?_; intro w2 H2 hB)
  have H3 : w2.heap[w.heap.size]? = some (.cells #[.int .u8 z0, .int .u8 z1, .int .u8 z2, .int .u8 z3] 53) := by have := H2.out; simpa [splice] using this
  obtain ⟨c0, c1, c2, c3⟩ := cells4 H3
  clear H2 H3 f1 f2 f3 f4 f5 e3 e4 S
  go_wp2_with (go_at_call 30; refine (read_any z0 z1 z2 z3 _ hz0 hz1 hz2 hz3).mono ?_; rintro e w3 ⟨rfl, hb3⟩)
  go_ret2
  exact ⟨ret_int2 (by omega), hB.trans (hb3.mono hB.size)⟩

end Go.Proofs.Ytfeioclnhnipmaa
