import Derived.Test.YtcffebkebldjcaaMa
import Derived.Test.YtcffebkebldjcaaEf
import Derived.Test.YtcffebkebldjcaaEg
import Derived.Test.YtcffebkebldjcaaEh
import Derived.Test.YtcffebkebldjcaaOy
import Derived.Test.YtcffebkebldjcaaOr
import Derived.Test.YtcffebkebldjcaaOl
import Derived.Test.YtcffebkebldjcaaEk
import Derived.Deep.RegionHeld3
import Derived.Deep.RegionWith
import Derived.Deep.MidRow
import Derived.Deep.Cut
import Derived.Test.YtcffebkebldjcaaEn
namespace Go.Proofs.Ytcffebkebldjcaa
section
open Go Go.RowKit
set_option linter.unusedVariables false
set_option linter.unusedSimpArgs false

set_option maxRecDepth 100000 in
set_option maxHeartbeats 4000000 in
theorem rd_a (ao : Option Addr) (ln cap : Nat) (w : World) (h : ln < 4) :
    Calls Try.prog 21 #[.slice ao ln cap] w fun e w' => e = .returned (.tuple #[.slice none 0 0, .int .i64 0, .agg #[.bool true, .int .i64 4, .int .i64 1]]) ∧ Below w.heap.size w w' := by
  have F0 := hide_ (AB.at0 w 30 [.bool false, .int .i64 0, .int .i64 0])
  have B0 := hide_ (below1 w (.cells #[.bool false, .int .i64 0, .int .i64 0] 30))
  have qr := hide_ (fun k w => rmbad_any k w)
  have h' : (ln : Int) < 4 := by omega
  have KD : Below (w.alloc (.cells #[.bool false, .int .i64 0, .int .i64 0] 30)).heap.size (w.alloc (.cells #[.bool false, .int .i64 0, .int .i64 0] 30)) (w.alloc (.cells #[.bool false, .int .i64 0, .int .i64 0] 30)) := Below.refl _ _
  go_enter Try.func21, Try.ntmps21
  go_wp2_with (go_at_call 38; refine (qr.out _ _).mono ?_; rintro e w5 ⟨rfl, b5⟩; have K5 := KD.trans (b5.mono KD.size); obtain ⟨s0, s1, s2, s3, s4, s5⟩ := (F0.out.later K5).three; obtain ⟨u0, u1, u2, -⟩ := ((F0.out.later K5).set3 (.bool true) (.int .i64 4) (.int .i64 1)).three; have bb := below_set3 (g := w.heap.size) (B0.out.trans (K5.mono B0.out.size)) (Nat.le_refl _) (.bool true) (.int .i64 4) (.int .i64 1))
  exact bodyPost_ret (v := .tuple #[.slice none 0 0, .int .i64 0, .agg #[.bool true, .int .i64 4, .int .i64 1]]) (by simp [results, Try.results21, go_sem, u0, u1, u2]) rfl ⟨rfl, bb⟩

set_option maxRecDepth 100000 in
set_option maxHeartbeats 8000000 in
theorem rd_b1 (bb off ln cap : Nat) (l : List Int) (z0 z1 z2 z3 : Int) (N : Nat) (w : World) (hB : Bytes w (.slice (some ⟨bb, off, none⟩) ln cap) l) (c0 : w.cell? ⟨bb, off, none⟩ = some (.int .u8 z0)) (c1 : w.cell? ⟨bb, off + 1, none⟩ = some (.int .u8 z1)) (c2 : w.cell? ⟨bb, off + 2, none⟩ = some (.int .u8 z2)) (c3 : w.cell? ⟨bb, off + 3, none⟩ = some (.int .u8 z3)) (i2 : 0 ≤ z2 ∧ z2 ≤ 255) (i3 : 0 ≤ z3 ∧ z3 ≤ 255) (hN : z2 * 256 + z3 = (N : Int)) (h4 : ¬ (ln : Int) < 4) (h5 : (N : Int) < 4) :
    Calls Try.prog 21 #[.slice (some ⟨bb, off, none⟩) ln cap] w fun e w' => e = .returned (.tuple #[.slice none 0 0, .int .i64 0, .agg #[.bool true, .int .i64 4, .int .i64 1]]) ∧ Below w.heap.size w w' := by
  have F0 := hide_ (AB.at0 w 30 [.bool false, .int .i64 0, .int .i64 0])
  have B0 := hide_ (below1 w (.cells #[.bool false, .int .i64 0, .int .i64 0] 30))
  have qr := hide_ (fun k w => rmbad_any k w)
  have hml : ln ≤ 9223372036854775807 := by obtain ⟨h0, h1, h2⟩ := Bytes.at hB; unfold maxLen at *; omega
  have HB0 := hide_ (hB.later B0.out)
  have c0 := cell_later B0.out c0
  have c1 := cell_later B0.out c1
  have c2 := cell_later B0.out c2
  have c3 := cell_later B0.out c3
  have hq2 : IntKind.i64.wrap z2 = z2 := by rw [IntKind.wrap_i64]; omega
  have hq3 : IntKind.i64.wrap z3 = z3 := by rw [IntKind.wrap_i64]; omega
  have hq4 : IntKind.i64.wrap (z2 * 256) = z2 * 256 := by rw [IntKind.wrap_i64]; omega
  have hq5 : IntKind.i64.wrap (z2 * 256 + z3) = (N : Int) := by rw [IntKind.wrap_i64]; omega
  have hNb : N ≤ 65535 := by omega
  have h1' : IntKind.i64.wrap ((N : Int) + 7) = (N : Int) + 7 := by rw [IntKind.wrap_i64]; omega
  have ht : Int.tdiv ((N : Int) + 7) 8 = (((N + 7) / 8 : Nat) : Int) := by rw [Int.tdiv_eq_ediv_of_nonneg (by omega)]; omega
  have h2' : IntKind.i64.wrap (Int.tdiv ((N : Int) + 7) 8) = Int.tdiv ((N : Int) + 7) 8 := by rw [ht, IntKind.wrap_i64]; omega
  have h3' : IntKind.i64.wrap (Int.tdiv ((N : Int) + 7) 8 * 8) = ((r8 N : Nat) : Int) := by rw [ht, IntKind.wrap_i64]; unfold r8; omega
  have hrg := r8_ge N
  have hrl := r8_le N
  have g3 : (2 : Int) < (ln : Int) := by omega
  have g4 : (3 : Int) < (ln : Int) := by omega
  have g1 : (1 : Int) < (ln : Int) := by omega
  have g0 : (0 : Int) < (ln : Int) := by omega
  clear ht hB
  generalize r8 N = rr at *
  go_enter Try.func21, Try.ntmps21
  go_wp2_with fail
  go_quiet (fail)
  have KD : Below (w.alloc (.cells #[.bool false, .int .i64 0, .int .i64 0] 30)).heap.size (w.alloc (.cells #[.bool false, .int .i64 0, .int .i64 0] 30)) ((w.alloc (.cells #[.bool false, .int .i64 0, .int .i64 0] 30)).drewN nq) := below_drewN (Below.refl _ _) nq
  generalize (w.alloc (.cells #[.bool false, .int .i64 0, .int .i64 0] 30)).drewN nq = D at *
  have c0 := cell_later KD c0
  have c1 := cell_later KD c1
  go_wp2_with (go_at_call 38; refine (qr.out _ _).mono ?_; rintro e w5 ⟨rfl, b5⟩; have K5 := KD.trans (b5.mono KD.size); obtain ⟨s0, s1, s2, s3, s4, s5⟩ := (F0.out.later K5).three; obtain ⟨u0, u1, u2, -⟩ := ((F0.out.later K5).set3 (.bool true) (.int .i64 4) (.int .i64 1)).three; have bb := below_set3 (g := w.heap.size) (B0.out.trans (K5.mono B0.out.size)) (Nat.le_refl _) (.bool true) (.int .i64 4) (.int .i64 1))
  exact bodyPost_ret (v := .tuple #[.slice none 0 0, .int .i64 0, .agg #[.bool true, .int .i64 4, .int .i64 1]]) (by simp [results, Try.results21, go_sem, u0, u1, u2]) rfl ⟨rfl, bb⟩

set_option maxRecDepth 100000 in
set_option maxHeartbeats 8000000 in
theorem rd_b2 (bb off ln cap : Nat) (l : List Int) (z0 z1 z2 z3 : Int) (N : Nat) (w : World) (hB : Bytes w (.slice (some ⟨bb, off, none⟩) ln cap) l) (c0 : w.cell? ⟨bb, off, none⟩ = some (.int .u8 z0)) (c1 : w.cell? ⟨bb, off + 1, none⟩ = some (.int .u8 z1)) (c2 : w.cell? ⟨bb, off + 2, none⟩ = some (.int .u8 z2)) (c3 : w.cell? ⟨bb, off + 3, none⟩ = some (.int .u8 z3)) (i2 : 0 ≤ z2 ∧ z2 ≤ 255) (i3 : 0 ≤ z3 ∧ z3 ≤ 255) (hN : z2 * 256 + z3 = (N : Int)) (h4 : ¬ (ln : Int) < 4) (h5 : ¬ (N : Int) < 4) (h6 : (ln : Int) < ((r8 N : Nat) : Int)) :
    Calls Try.prog 21 #[.slice (some ⟨bb, off, none⟩) ln cap] w fun e w' => e = .returned (.tuple #[.slice none 0 0, .int .i64 0, .agg #[.bool true, .int .i64 4, .int .i64 1]]) ∧ Below w.heap.size w w' := by
  have F0 := hide_ (AB.at0 w 30 [.bool false, .int .i64 0, .int .i64 0])
  have B0 := hide_ (below1 w (.cells #[.bool false, .int .i64 0, .int .i64 0] 30))
  have qr := hide_ (fun k w => rmbad_any k w)
  have hml : ln ≤ 9223372036854775807 := by obtain ⟨h0, h1, h2⟩ := Bytes.at hB; unfold maxLen at *; omega
  have HB0 := hide_ (hB.later B0.out)
  have c0 := cell_later B0.out c0
  have c1 := cell_later B0.out c1
  have c2 := cell_later B0.out c2
  have c3 := cell_later B0.out c3
  have hq2 : IntKind.i64.wrap z2 = z2 := by rw [IntKind.wrap_i64]; omega
  have hq3 : IntKind.i64.wrap z3 = z3 := by rw [IntKind.wrap_i64]; omega
  have hq4 : IntKind.i64.wrap (z2 * 256) = z2 * 256 := by rw [IntKind.wrap_i64]; omega
  have hq5 : IntKind.i64.wrap (z2 * 256 + z3) = (N : Int) := by rw [IntKind.wrap_i64]; omega
  have hNb : N ≤ 65535 := by omega
  have h1' : IntKind.i64.wrap ((N : Int) + 7) = (N : Int) + 7 := by rw [IntKind.wrap_i64]; omega
  have ht : Int.tdiv ((N : Int) + 7) 8 = (((N + 7) / 8 : Nat) : Int) := by rw [Int.tdiv_eq_ediv_of_nonneg (by omega)]; omega
  have h2' : IntKind.i64.wrap (Int.tdiv ((N : Int) + 7) 8) = Int.tdiv ((N : Int) + 7) 8 := by rw [ht, IntKind.wrap_i64]; omega
  have h3' : IntKind.i64.wrap (Int.tdiv ((N : Int) + 7) 8 * 8) = ((r8 N : Nat) : Int) := by rw [ht, IntKind.wrap_i64]; unfold r8; omega
  have hrg := r8_ge N
  have hrl := r8_le N
  have g3 : (2 : Int) < (ln : Int) := by omega
  have g4 : (3 : Int) < (ln : Int) := by omega
  have g1 : (1 : Int) < (ln : Int) := by omega
  have g0 : (0 : Int) < (ln : Int) := by omega
  clear ht hB
  generalize r8 N = rr at *
  go_enter Try.func21, Try.ntmps21
  go_wp2_with fail
  go_quiet (fail)
  have KD : Below (w.alloc (.cells #[.bool false, .int .i64 0, .int .i64 0] 30)).heap.size (w.alloc (.cells #[.bool false, .int .i64 0, .int .i64 0] 30)) ((w.alloc (.cells #[.bool false, .int .i64 0, .int .i64 0] 30)).drewN nq) := below_drewN (Below.refl _ _) nq
  generalize (w.alloc (.cells #[.bool false, .int .i64 0, .int .i64 0] 30)).drewN nq = D at *
  have c0 := cell_later KD c0
  have c1 := cell_later KD c1
  go_wp2_with (go_at_call 38; refine (qr.out _ _).mono ?_; rintro e w5 ⟨rfl, b5⟩; have K5 := KD.trans (b5.mono KD.size); obtain ⟨s0, s1, s2, s3, s4, s5⟩ := (F0.out.later K5).three; obtain ⟨u0, u1, u2, -⟩ := ((F0.out.later K5).set3 (.bool true) (.int .i64 4) (.int .i64 1)).three; have bb := below_set3 (g := w.heap.size) (B0.out.trans (K5.mono B0.out.size)) (Nat.le_refl _) (.bool true) (.int .i64 4) (.int .i64 1))
  exact bodyPost_ret (v := .tuple #[.slice none 0 0, .int .i64 0, .agg #[.bool true, .int .i64 4, .int .i64 1]]) (by simp [results, Try.results21, go_sem, u0, u1, u2]) rfl ⟨rfl, bb⟩

set_option maxRecDepth 100000 in
set_option maxHeartbeats 8000000 in
theorem rd_c1 (bb off ln cap : Nat) (l : List Int) (z0 z1 z2 z3 : Int) (N : Nat) (w : World) (hB : Bytes w (.slice (some ⟨bb, off, none⟩) ln cap) l) (c0 : w.cell? ⟨bb, off, none⟩ = some (.int .u8 z0)) (c1 : w.cell? ⟨bb, off + 1, none⟩ = some (.int .u8 z1)) (c2 : w.cell? ⟨bb, off + 2, none⟩ = some (.int .u8 z2)) (c3 : w.cell? ⟨bb, off + 3, none⟩ = some (.int .u8 z3)) (i2 : 0 ≤ z2 ∧ z2 ≤ 255) (i3 : 0 ≤ z3 ∧ z3 ≤ 255) (hN : z2 * 256 + z3 = (N : Int)) (h4 : ¬ (ln : Int) < 4) (h5 : ¬ (N : Int) < 4) (h6 : ¬ (ln : Int) < ((r8 N : Nat) : Int)) (h7 : (z0 != 0) = true) :
    Calls Try.prog 21 #[.slice (some ⟨bb, off, none⟩) ln cap] w fun e w' => e = .returned (.tuple #[.slice none 0 0, .int .i64 0, .agg #[.bool true, .int .i64 4, .int .i64 0]]) ∧ Below w.heap.size w w' := by
  have F0 := hide_ (AB.at0 w 30 [.bool false, .int .i64 0, .int .i64 0])
  have B0 := hide_ (below1 w (.cells #[.bool false, .int .i64 0, .int .i64 0] 30))
  have qr := hide_ (fun k w => rmbad_any k w)
  have hml : ln ≤ 9223372036854775807 := by obtain ⟨h0, h1, h2⟩ := Bytes.at hB; unfold maxLen at *; omega
  have HB0 := hide_ (hB.later B0.out)
  have c0 := cell_later B0.out c0
  have c1 := cell_later B0.out c1
  have c2 := cell_later B0.out c2
  have c3 := cell_later B0.out c3
  have hq2 : IntKind.i64.wrap z2 = z2 := by rw [IntKind.wrap_i64]; omega
  have hq3 : IntKind.i64.wrap z3 = z3 := by rw [IntKind.wrap_i64]; omega
  have hq4 : IntKind.i64.wrap (z2 * 256) = z2 * 256 := by rw [IntKind.wrap_i64]; omega
  have hq5 : IntKind.i64.wrap (z2 * 256 + z3) = (N : Int) := by rw [IntKind.wrap_i64]; omega
  have hNb : N ≤ 65535 := by omega
  have h1' : IntKind.i64.wrap ((N : Int) + 7) = (N : Int) + 7 := by rw [IntKind.wrap_i64]; omega
  have ht : Int.tdiv ((N : Int) + 7) 8 = (((N + 7) / 8 : Nat) : Int) := by rw [Int.tdiv_eq_ediv_of_nonneg (by omega)]; omega
  have h2' : IntKind.i64.wrap (Int.tdiv ((N : Int) + 7) 8) = Int.tdiv ((N : Int) + 7) 8 := by rw [ht, IntKind.wrap_i64]; omega
  have h3' : IntKind.i64.wrap (Int.tdiv ((N : Int) + 7) 8 * 8) = ((r8 N : Nat) : Int) := by rw [ht, IntKind.wrap_i64]; unfold r8; omega
  have hrg := r8_ge N
  have hrl := r8_le N
  have g3 : (2 : Int) < (ln : Int) := by omega
  have g4 : (3 : Int) < (ln : Int) := by omega
  have g1 : (1 : Int) < (ln : Int) := by omega
  have g0 : (0 : Int) < (ln : Int) := by omega
  clear ht hB
  generalize r8 N = rr at *
  go_enter Try.func21, Try.ntmps21
  go_wp2_with fail
  go_quiet (fail)
  have KD : Below (w.alloc (.cells #[.bool false, .int .i64 0, .int .i64 0] 30)).heap.size (w.alloc (.cells #[.bool false, .int .i64 0, .int .i64 0] 30)) ((w.alloc (.cells #[.bool false, .int .i64 0, .int .i64 0] 30)).drewN nq) := below_drewN (Below.refl _ _) nq
  generalize (w.alloc (.cells #[.bool false, .int .i64 0, .int .i64 0] 30)).drewN nq = D at *
  have c0 := cell_later KD c0
  have c1 := cell_later KD c1
  go_wp2_with (go_at_call 38; refine (qr.out _ _).mono ?_; rintro e w5 ⟨rfl, b5⟩; have K5 := KD.trans (b5.mono KD.size); obtain ⟨s0, s1, s2, s3, s4, s5⟩ := (F0.out.later K5).three; obtain ⟨u0, u1, u2, -⟩ := ((F0.out.later K5).set3 (.bool true) (.int .i64 4) (.int .i64 0)).three; have bb := below_set3 (g := w.heap.size) (B0.out.trans (K5.mono B0.out.size)) (Nat.le_refl _) (.bool true) (.int .i64 4) (.int .i64 0))
  exact bodyPost_ret (v := .tuple #[.slice none 0 0, .int .i64 0, .agg #[.bool true, .int .i64 4, .int .i64 0]]) (by simp [results, Try.results21, go_sem, u0, u1, u2]) rfl ⟨rfl, bb⟩

set_option maxRecDepth 100000 in
set_option maxHeartbeats 8000000 in
theorem rd_c2 (bb off ln cap : Nat) (l : List Int) (z0 z1 z2 z3 : Int) (N : Nat) (w : World) (hB : Bytes w (.slice (some ⟨bb, off, none⟩) ln cap) l) (c0 : w.cell? ⟨bb, off, none⟩ = some (.int .u8 z0)) (c1 : w.cell? ⟨bb, off + 1, none⟩ = some (.int .u8 z1)) (c2 : w.cell? ⟨bb, off + 2, none⟩ = some (.int .u8 z2)) (c3 : w.cell? ⟨bb, off + 3, none⟩ = some (.int .u8 z3)) (i2 : 0 ≤ z2 ∧ z2 ≤ 255) (i3 : 0 ≤ z3 ∧ z3 ≤ 255) (hN : z2 * 256 + z3 = (N : Int)) (h4 : ¬ (ln : Int) < 4) (h5 : ¬ (N : Int) < 4) (h6 : ¬ (ln : Int) < ((r8 N : Nat) : Int)) (h7 : z0 = 0) (h8 : (z1 != 1) = true) :
    Calls Try.prog 21 #[.slice (some ⟨bb, off, none⟩) ln cap] w fun e w' => e = .returned (.tuple #[.slice none 0 0, .int .i64 0, .agg #[.bool true, .int .i64 4, .int .i64 0]]) ∧ Below w.heap.size w w' := by
  subst h7
  have F0 := hide_ (AB.at0 w 30 [.bool false, .int .i64 0, .int .i64 0])
  have B0 := hide_ (below1 w (.cells #[.bool false, .int .i64 0, .int .i64 0] 30))
  have qr := hide_ (fun k w => rmbad_any k w)
  have hml : ln ≤ 9223372036854775807 := by obtain ⟨h0, h1, h2⟩ := Bytes.at hB; unfold maxLen at *; omega
  have HB0 := hide_ (hB.later B0.out)
  have c0 := cell_later B0.out c0
  have c1 := cell_later B0.out c1
  have c2 := cell_later B0.out c2
  have c3 := cell_later B0.out c3
  have hq2 : IntKind.i64.wrap z2 = z2 := by rw [IntKind.wrap_i64]; omega
  have hq3 : IntKind.i64.wrap z3 = z3 := by rw [IntKind.wrap_i64]; omega
  have hq4 : IntKind.i64.wrap (z2 * 256) = z2 * 256 := by rw [IntKind.wrap_i64]; omega
  have hq5 : IntKind.i64.wrap (z2 * 256 + z3) = (N : Int) := by rw [IntKind.wrap_i64]; omega
  have hNb : N ≤ 65535 := by omega
  have h1' : IntKind.i64.wrap ((N : Int) + 7) = (N : Int) + 7 := by rw [IntKind.wrap_i64]; omega
  have ht : Int.tdiv ((N : Int) + 7) 8 = (((N + 7) / 8 : Nat) : Int) := by rw [Int.tdiv_eq_ediv_of_nonneg (by omega)]; omega
  have h2' : IntKind.i64.wrap (Int.tdiv ((N : Int) + 7) 8) = Int.tdiv ((N : Int) + 7) 8 := by rw [ht, IntKind.wrap_i64]; omega
  have h3' : IntKind.i64.wrap (Int.tdiv ((N : Int) + 7) 8 * 8) = ((r8 N : Nat) : Int) := by rw [ht, IntKind.wrap_i64]; unfold r8; omega
  have hrg := r8_ge N
  have hrl := r8_le N
  have g3 : (2 : Int) < (ln : Int) := by omega
  have g4 : (3 : Int) < (ln : Int) := by omega
  have g1 : (1 : Int) < (ln : Int) := by omega
  have g0 : (0 : Int) < (ln : Int) := by omega
  clear ht hB
  generalize r8 N = rr at *
  go_enter Try.func21, Try.ntmps21
  go_wp2_with fail
  go_quiet (fail)
  have KD : Below (w.alloc (.cells #[.bool false, .int .i64 0, .int .i64 0] 30)).heap.size (w.alloc (.cells #[.bool false, .int .i64 0, .int .i64 0] 30)) ((w.alloc (.cells #[.bool false, .int .i64 0, .int .i64 0] 30)).drewN nq) := below_drewN (Below.refl _ _) nq
  generalize (w.alloc (.cells #[.bool false, .int .i64 0, .int .i64 0] 30)).drewN nq = D at *
  have c0 := cell_later KD c0
  have c1 := cell_later KD c1
  go_wp2_with (go_at_call 38; refine (qr.out _ _).mono ?_; rintro e w5 ⟨rfl, b5⟩; have K5 := KD.trans (b5.mono KD.size); obtain ⟨s0, s1, s2, s3, s4, s5⟩ := (F0.out.later K5).three; obtain ⟨u0, u1, u2, -⟩ := ((F0.out.later K5).set3 (.bool true) (.int .i64 4) (.int .i64 0)).three; have bb := below_set3 (g := w.heap.size) (B0.out.trans (K5.mono B0.out.size)) (Nat.le_refl _) (.bool true) (.int .i64 4) (.int .i64 0))
  exact bodyPost_ret (v := .tuple #[.slice none 0 0, .int .i64 0, .agg #[.bool true, .int .i64 4, .int .i64 0]]) (by simp [results, Try.results21, go_sem, u0, u1, u2]) rfl ⟨rfl, bb⟩

set_option maxRecDepth 100000 in
set_option maxHeartbeats 8000000 in
theorem rd_d (bb off ln cap : Nat) (l : List Int) (z0 z1 z2 z3 : Int) (N : Nat) (w : World) (hB : Bytes w (.slice (some ⟨bb, off, none⟩) ln cap) l) (c0 : w.cell? ⟨bb, off, none⟩ = some (.int .u8 z0)) (c1 : w.cell? ⟨bb, off + 1, none⟩ = some (.int .u8 z1)) (c2 : w.cell? ⟨bb, off + 2, none⟩ = some (.int .u8 z2)) (c3 : w.cell? ⟨bb, off + 3, none⟩ = some (.int .u8 z3)) (i2 : 0 ≤ z2 ∧ z2 ≤ 255) (i3 : 0 ≤ z3 ∧ z3 ≤ 255) (hN : z2 * 256 + z3 = (N : Int)) (h4 : ¬ (ln : Int) < 4) (h5 : ¬ (N : Int) < 4) (h6 : ¬ (ln : Int) < ((r8 N : Nat) : Int)) (h7 : z0 = 0) (h8 : z1 = 1) (h9 : (1004 : Int) < (N : Int)) :
    Calls Try.prog 21 #[.slice (some ⟨bb, off, none⟩) ln cap] w fun e w' => e = .returned (.tuple #[.slice none 0 0, .int .i64 0, .agg #[.bool true, .int .i64 4, .int .i64 1]]) ∧ Below w.heap.size w w' := by
  subst h7 h8
  have F0 := hide_ (AB.at0 w 30 [.bool false, .int .i64 0, .int .i64 0])
  have B0 := hide_ (below1 w (.cells #[.bool false, .int .i64 0, .int .i64 0] 30))
  have qr := hide_ (fun k w => rmbad_any k w)
  have hml : ln ≤ 9223372036854775807 := by obtain ⟨h0, h1, h2⟩ := Bytes.at hB; unfold maxLen at *; omega
  have HB0 := hide_ (hB.later B0.out)
  have c0 := cell_later B0.out c0
  have c1 := cell_later B0.out c1
  have c2 := cell_later B0.out c2
  have c3 := cell_later B0.out c3
  have hq2 : IntKind.i64.wrap z2 = z2 := by rw [IntKind.wrap_i64]; omega
  have hq3 : IntKind.i64.wrap z3 = z3 := by rw [IntKind.wrap_i64]; omega
  have hq4 : IntKind.i64.wrap (z2 * 256) = z2 * 256 := by rw [IntKind.wrap_i64]; omega
  have hq5 : IntKind.i64.wrap (z2 * 256 + z3) = (N : Int) := by rw [IntKind.wrap_i64]; omega
  have hNb : N ≤ 65535 := by omega
  have h1' : IntKind.i64.wrap ((N : Int) + 7) = (N : Int) + 7 := by rw [IntKind.wrap_i64]; omega
  have ht : Int.tdiv ((N : Int) + 7) 8 = (((N + 7) / 8 : Nat) : Int) := by rw [Int.tdiv_eq_ediv_of_nonneg (by omega)]; omega
  have h2' : IntKind.i64.wrap (Int.tdiv ((N : Int) + 7) 8) = Int.tdiv ((N : Int) + 7) 8 := by rw [ht, IntKind.wrap_i64]; omega
  have h3' : IntKind.i64.wrap (Int.tdiv ((N : Int) + 7) 8 * 8) = ((r8 N : Nat) : Int) := by rw [ht, IntKind.wrap_i64]; unfold r8; omega
  have hrg := r8_ge N
  have hrl := r8_le N
  have g3 : (2 : Int) < (ln : Int) := by omega
  have g4 : (3 : Int) < (ln : Int) := by omega
  have g1 : (1 : Int) < (ln : Int) := by omega
  have g0 : (0 : Int) < (ln : Int) := by omega
  clear ht hB
  generalize r8 N = rr at *
  go_enter Try.func21, Try.ntmps21
  go_wp2_with fail
  go_quiet (fail)
  have KD : Below (w.alloc (.cells #[.bool false, .int .i64 0, .int .i64 0] 30)).heap.size (w.alloc (.cells #[.bool false, .int .i64 0, .int .i64 0] 30)) ((w.alloc (.cells #[.bool false, .int .i64 0, .int .i64 0] 30)).drewN nq) := below_drewN (Below.refl _ _) nq
  generalize (w.alloc (.cells #[.bool false, .int .i64 0, .int .i64 0] 30)).drewN nq = D at *
  have c0 := cell_later KD c0
  have c1 := cell_later KD c1
  go_wp2_with (go_at_call 38; refine (qr.out _ _).mono ?_; rintro e w5 ⟨rfl, b5⟩; have K5 := KD.trans (b5.mono KD.size); obtain ⟨s0, s1, s2, s3, s4, s5⟩ := (F0.out.later K5).three; obtain ⟨u0, u1, u2, -⟩ := ((F0.out.later K5).set3 (.bool true) (.int .i64 4) (.int .i64 1)).three; have bb := below_set3 (g := w.heap.size) (B0.out.trans (K5.mono B0.out.size)) (Nat.le_refl _) (.bool true) (.int .i64 4) (.int .i64 1))
  exact bodyPost_ret (v := .tuple #[.slice none 0 0, .int .i64 0, .agg #[.bool true, .int .i64 4, .int .i64 1]]) (by simp [results, Try.results21, go_sem, u0, u1, u2]) rfl ⟨rfl, bb⟩
end

section
open Go Go.RowKit
set_option linter.unusedVariables false
set_option linter.unusedSimpArgs false

set_option maxRecDepth 100000 in
set_option maxHeartbeats 16000000 in
theorem rd_pbad (bb off ln cap : Nat) (l : List Int) (z0 z1 z2 z3 : Int) (N : Nat) (w : World) (hB : Bytes w (.slice (some ⟨bb, off, none⟩) ln cap) l) (c0 : w.cell? ⟨bb, off, none⟩ = some (.int .u8 z0)) (c1 : w.cell? ⟨bb, off + 1, none⟩ = some (.int .u8 z1)) (c2 : w.cell? ⟨bb, off + 2, none⟩ = some (.int .u8 z2)) (c3 : w.cell? ⟨bb, off + 3, none⟩ = some (.int .u8 z3)) (i2 : 0 ≤ z2 ∧ z2 ≤ 255) (i3 : 0 ≤ z3 ∧ z3 ≤ 255) (hN : z2 * 256 + z3 = (N : Int)) (h4 : ¬ (ln : Int) < 4) (h5 : ¬ (N : Int) < 4) (h6 : ¬ (ln : Int) < ((r8 N : Nat) : Int)) (h7 : z0 = 0) (h8 : z1 = 1) (h9 : ¬ (1004 : Int) < (N : Int)) (cc : Int) (hP : PBad ((l.take N).drop 4) cc) :
    Calls Try.prog 21 #[.slice (some ⟨bb, off, none⟩) ln cap] w fun e w' => e = .returned (.tuple #[.slice none 0 0, .int .i64 0, .agg #[.bool true, .int .i64 4, .int .i64 cc]]) ∧ Below w.heap.size w w' := by
  subst h7 h8
  have F0 := hide_ (AB.at0 w 30 [.bool false, .int .i64 0, .int .i64 0])
  have B0 := hide_ (below1 w (.cells #[.bool false, .int .i64 0, .int .i64 0] 30))
  have qr := hide_ (fun k w => rmbad_any k w)
  have hml : ln ≤ 9223372036854775807 := by obtain ⟨h0, h1, h2⟩ := Bytes.at hB; unfold maxLen at *; omega
  have HB0 := hide_ (hB.later B0.out)
  have c0 := cell_later B0.out c0
  have c1 := cell_later B0.out c1
  have c2 := cell_later B0.out c2
  have c3 := cell_later B0.out c3
  have hq2 : IntKind.i64.wrap z2 = z2 := by rw [IntKind.wrap_i64]; omega
  have hq3 : IntKind.i64.wrap z3 = z3 := by rw [IntKind.wrap_i64]; omega
  have hq4 : IntKind.i64.wrap (z2 * 256) = z2 * 256 := by rw [IntKind.wrap_i64]; omega
  have hq5 : IntKind.i64.wrap (z2 * 256 + z3) = (N : Int) := by rw [IntKind.wrap_i64]; omega
  have hNb : N ≤ 65535 := by omega
  have h1' : IntKind.i64.wrap ((N : Int) + 7) = (N : Int) + 7 := by rw [IntKind.wrap_i64]; omega
  have ht : Int.tdiv ((N : Int) + 7) 8 = (((N + 7) / 8 : Nat) : Int) := by rw [Int.tdiv_eq_ediv_of_nonneg (by omega)]; omega
  have h2' : IntKind.i64.wrap (Int.tdiv ((N : Int) + 7) 8) = Int.tdiv ((N : Int) + 7) 8 := by rw [ht, IntKind.wrap_i64]; omega
  have h3' : IntKind.i64.wrap (Int.tdiv ((N : Int) + 7) 8 * 8) = ((r8 N : Nat) : Int) := by rw [ht, IntKind.wrap_i64]; unfold r8; omega
  have hrg := r8_ge N
  have hrl := r8_le N
  have g3 : (2 : Int) < (ln : Int) := by omega
  have g4 : (3 : Int) < (ln : Int) := by omega
  have g1 : (1 : Int) < (ln : Int) := by omega
  have g0 : (0 : Int) < (ln : Int) := by omega
  have hle : N ≤ l.length := by have := (Bytes.at hB).1; omega
  clear ht hB
  have HP := hide_ hP
  clear hP
  generalize r8 N = rr at *
  go_enter Try.func21, Try.ntmps21
  go_wp2_with fail
  go_quiet (fail)
  have KD : Below (w.alloc (.cells #[.bool false, .int .i64 0, .int .i64 0] 30)).heap.size (w.alloc (.cells #[.bool false, .int .i64 0, .int .i64 0] 30)) ((w.alloc (.cells #[.bool false, .int .i64 0, .int .i64 0] 30)).drewN nq) := below_drewN (Below.refl _ _) nq
  generalize (w.alloc (.cells #[.bool false, .int .i64 0, .int .i64 0] 30)).drewN nq = D at *
  have c0 := cell_later KD c0
  have c1 := cell_later KD c1
  obtain ⟨i0, hi0, hz0, hz1, hz2⟩ := info_parts infoO
  have HI : Hid (Try.prog.info? 51 = some i0 ∧ i0.zero = some (.agg #[.int .i64 0, .bool false, .int .u64 0, .int .u64 0, .int .u64 0, .int .u64 0]) ∧ i0.size = 6 ∧ i0.bytes = 48) := ⟨hi0, hz0, hz1, hz2⟩
  clear hi0 hz0 hz1 hz2
  go_wp2_with fail
  generalize decide (ln < rr) = x1 at *
  generalize decide ((N : Int) < 4) = x2 at *
  generalize decide ((1004 : Int) < (N : Int)) = x3 at *
  have OE : Hid ((D.alloc (.cells #[] 51)).ownsRow (w.alloc (.cells #[.bool false, .int .i64 0, .int .i64 0] 30)).heap.size 51 6 (.slice (some ⟨D.heap.size, 0, none⟩) 0 0) 0 (ods [])) := hide_ (World.ownsRow_lit D #[] 0 KD.size (Nat.zero_le _) rfl)
  have KE := hide_ (KD.trans ((below1 D (.cells #[] 51)).mono KD.size))
  generalize D.alloc (.cells #[] 51) = V at *
  generalize D.heap.size = gd at *
  clear KD
  go_loopw [7, 8] (fun u at_ wr => ∃ (ua : Option Addr) (uc : Nat) (pre : List O6) (a : Nat), u = .slice ua pre.length uc ∧ at_ = .int .i64 (a : Int) ∧ 4 ≤ a ∧ a ≤ N ∧ pre.length + N ≤ 100000 + a ∧ Hid (wr.ownsRow (w.alloc (.cells #[.bool false, .int .i64 0, .int .i64 0] 30)).heap.size 51 6 (.slice ua pre.length uc) pre.length (ods pre)) ∧ Hid (PBad ((l.take N).drop a) cc) ∧ Hid (Below (w.alloc (.cells #[.bool false, .int .i64 0, .int .i64 0] 30)).heap.size (w.alloc (.cells #[.bool false, .int .i64 0, .int .i64 0] 30)) wr)) (fun _ at_ _ => N - (intOf at_).toNat)
  case atStart => exact ⟨some ⟨gd, 0, none⟩, 0, [], 4, rfl, rfl, Nat.le_refl _, by omega, by simp; omega, OE, HP, KE⟩
  case round =>
    obtain ⟨ua, uc, pre, a0, rfl, rfl, ha4, haN, hsum, HOw, HPP, KB⟩ := hrel
    obtain ⟨ao', hs1, hb1⟩ := bytes_mid HB0.out a0 N haN hle
    obtain ⟨mm, hmm⟩ : ∃ mm, (l.take N).drop a0 = mm := ⟨_, rfl⟩
    have hmlen : mm.length = N - a0 := by rw [← hmm, List.length_drop, List.length_take]; omega
    have hpo := HPP.out
    rw [hmm] at hb1 hpo
    have HMM := hide_ hmm
    have qd := rodec_any _ mm wr (hb1.later KB.out)
    clear HPP hmm hb1
    cases hpo with
    | here h0 hk hd =>
      rw [hd] at qd
      unfold ov fv at qd
      have qd := hide_ qd
      clear hd
      have hlt' : (a0 : Int) < (N : Int) := by omega
      go_upto_region 16 with (first | (go_at_call 54; refine (qd.out).mono ?_; rintro e w3 ⟨rfl, b3⟩; have j3 : Below wr.heap.size wr ((w3.alloc (.cells #[.int .i64 0, .bool false, .int .u64 0, .int .u64 0, .int .u64 0, .int .u64 0] 51)).alloc (.cells #[.bool true, .int .i64 4, .int .i64 cc] 30)) := b3.trans ((below2 w3 _ _).mono b3.size); have K3 := KB.out.trans (j3.mono KB.out.size); obtain ⟨o0, o1, o2, o3, o4, o5, -⟩ := ((AB.at0 w3 51 [.int .i64 0, .bool false, .int .u64 0, .int .u64 0, .int .u64 0, .int .u64 0]).alloc (.cells #[.bool true, .int .i64 4, .int .i64 cc] 30)).six; obtain ⟨f0, f1, f2, -⟩ := (AB.at1 w3 (.cells #[.int .i64 0, .bool false, .int .u64 0, .int .u64 0, .int .u64 0, .int .u64 0] 51) 30 [.bool true, .int .i64 4, .int .i64 cc]).three))
      have BX := B0.out.trans (K3.mono B0.out.size)
      have hgw : w.heap.size < w3.heap.size := Nat.lt_of_lt_of_le (Nat.lt_of_lt_of_le (by simp) KB.out.size) b3.size
      have FD := F0.out.later K3
      generalize ((w3.alloc (.cells #[.int .i64 0, .bool false, .int .u64 0, .int .u64 0, .int .u64 0, .int .u64 0] 51)).alloc (.cells #[.bool true, .int .i64 4, .int .i64 cc] 30)) = X at *
      have FD : AB X.drew w.heap.size 30 [.bool false, .int .i64 0, .int .i64 0] := FD
      obtain ⟨s0, s1, s2, s3, s4, s5⟩ := FD.three
      obtain ⟨u0, u1, u2, -⟩ := (FD.set3 (.bool true) (.int .i64 4) (.int .i64 cc)).three
      clear FD
      refine wp_region_held_drew (S := (fun w' => w'.cell? ⟨w3.heap.size + 1, 0, none⟩ = some (.bool true) ∧ w'.cell? ⟨w3.heap.size + 1, 1, none⟩ = some (.int .i64 4) ∧ w'.cell? ⟨w3.heap.size + 1, 2, none⟩ = some (.int .i64 cc) ∧ Below w.heap.size w w')) (by kernel_rfl) (⟨f0, f1, f2, BX.drew⟩) (fun hHeld => ?_)
      generalize X.drew = D5 at *
      refine takeR (i := 0) (v := ?_) rfl (by kernel_rfl) (by kernel_rfl) (by kernel_rfl) (some 73) rfl (Or.inl ⟨by rfl, ?_⟩) (fun _ _ _ h => h) (by assumption) ?_
      rotate_left
      · intro w hSw; (try dsimp only at hSw); go_simp; (try with_reducible rfl)
      simp only [Act.put, List.setIfInBounds_toArray, List.set_cons_zero, List.set_cons_succ]
      refine takeR (i := 1) (v := ?_) rfl (by kernel_rfl) (by kernel_rfl) (by kernel_rfl) (some 2) rfl (Or.inl ⟨by rfl, ?_⟩) (fun _ _ _ h => h) (by assumption) ?_
      rotate_left
      · intro w hSw; (try dsimp only at hSw); go_simp; (try with_reducible rfl)
      simp only [Act.put, List.setIfInBounds_toArray, List.set_cons_zero, List.set_cons_succ]
      refine takeR (i := 2) (v := ?_) rfl (by kernel_rfl) (by kernel_rfl) (by kernel_rfl) (some 3) rfl (Or.inl ⟨by rfl, ?_⟩) (fun _ _ _ h => h) (by assumption) ?_
      rotate_left
      · intro w hSw; (try dsimp only at hSw); go_simp; (try with_reducible rfl)
      simp only [Act.put, List.setIfInBounds_toArray, List.set_cons_zero, List.set_cons_succ]
      refine wpAnyH_ready (rs := [3]) (by kernel_rfl) (by simp) ?_
      refine AllReadyH.cons rfl (fun K hK => ?_) (AllReadyH.nil)
      go_simp
      refine hK.out _ _ (kW3_3 hHeld (by omega) (by dsimp only; omega) (by dsimp only; omega) (by dsimp only; omega)) (fun hHeld => ?_)
      clear hK K
      try simp only [Act.put, List.setIfInBounds_toArray, List.set_cons_zero, List.set_cons_succ]
      refine wpAnyH_done (by kernel_rfl) ?_ _
      go_wp2_with fail
      exact bodyPost_ret (v := .tuple #[.slice none 0 0, .int .i64 0, .agg #[.bool true, .int .i64 4, .int .i64 cc]]) (by simp [results, Try.results21, go_sem, u0, u1, u2]) rfl ⟨rfl, hHeld.2.2.2⟩
    | @cons _ f m a b c d nn _ hd h0 hle2 hrest =>
      rw [hd] at qd
      unfold ov fv at qd
      have qd := hide_ qd
      have hla : a0 + nn ≤ N := by omega
      have hlt' : (a0 : Int) < (N : Int) := by omega
      have hadd : IntKind.i64.wrap ((a0 : Int) + (nn : Int)) = ((a0 + nn : Nat) : Int) := by rw [IntKind.wrap_i64]; omega
      have hdrop : mm.drop nn = (l.take N).drop (a0 + nn) := by rw [← HMM.out, List.drop_drop]
      clear hd
      go_wp2_with (first | (go_at_call 54; refine (qd.out).mono ?_; rintro e w3 ⟨rfl, b3⟩; have j3 : Below wr.heap.size wr ((w3.alloc (.cells #[.int .i64 f, .bool m, .int .u64 (a : Int), .int .u64 (b : Int), .int .u64 (c : Int), .int .u64 (d : Int)] 51)).alloc (.cells #[.bool false, .int .i64 0, .int .i64 0] 30)) := b3.trans ((below2 w3 _ _).mono b3.size); have K3 := KB.out.trans (j3.mono KB.out.size); obtain ⟨o0, o1, o2, o3, o4, o5, -⟩ := ((AB.at0 w3 51 [.int .i64 f, .bool m, .int .u64 (a : Int), .int .u64 (b : Int), .int .u64 (c : Int), .int .u64 (d : Int)]).alloc (.cells #[.bool false, .int .i64 0, .int .i64 0] 30)).six; obtain ⟨f0, f1, f2, -⟩ := (AB.at1 w3 (.cells #[.int .i64 f, .bool m, .int .u64 (a : Int), .int .u64 (b : Int), .int .u64 (c : Int), .int .u64 (d : Int)] 51) 30 [.bool false, .int .i64 0, .int .i64 0]).three) | (at_builtin; refine wpList_append_new (.tmp 74) (.tmp 76) 22 rfl 51 i0 (.agg #[.int .i64 0, .bool false, .int .u64 0, .int .u64 0, .int .u64 0, .int .u64 0]) 6 48 Try.underlying22 HI.out.1 HI.out.2.1 HI.out.2.2.1 HI.out.2.2.2 rfl (by decide) (w.alloc (.cells #[.bool false, .int .i64 0, .int .i64 0] 30)).heap.size (.slice ua pre.length uc) pre.length (ods pre) (by simp [Act.eval, Act.put]) ((w3.alloc (.cells #[.int .i64 f, .bool m, .int .u64 (a : Int), .int .u64 (b : Int), .int .u64 (c : Int), .int .u64 (d : Int)] 51)).alloc (.cells #[.bool false, .int .i64 0, .int .i64 0] 30)) (own6_later HOw.out j3) [.int .i64 f, .bool m, .int .u64 (a : Int), .int .u64 (b : Int), .int .u64 (c : Int), .int .u64 (d : Int)] _ rfl 1 (by simp) (by simp [Value.oneCell']) (by simp [Act.eval, Act.put]) (by simp [Region.wanted]) (by unfold maxLen; omega) (by omega) K3.size ?_; intro v4 w4 own4 b4))
      have own4 : w4.ownsRow (w.alloc (.cells #[.bool false, .int .i64 0, .int .i64 0] 30)).heap.size 51 6 v4 (pre ++ [(f, m, a, b, c, d)]).length (ods (pre ++ [(f, m, a, b, c, d)])) := by
        rw [ods_snoc, List.length_append]
        exact own4
      obtain ⟨ua4, uc4, e4⟩ : ∃ ua4 uc4, v4 = .slice ua4 (pre ++ [(f, m, a, b, c, d)]).length uc4 := by
        rcases own4.2 with ⟨_, h0⟩ | ⟨g, cp, cur, rfl, _⟩
        · simp at h0
        · exact ⟨_, _, rfl⟩
      subst e4
      have own4 := hide_ own4
      go_wp2
      go_roundw
      case rel => exact ⟨ua4, uc4, pre ++ [(f, m, a, b, c, d)], a0 + nn, rfl, rfl, by omega, hla, by simp; omega, own4, hide_ (by rw [← hdrop]; exact hrest), hide_ (K3.trans b4)⟩
      case measure => simp [intOf]; omega
end

section
open Go Go.RowKit
set_option linter.unusedVariables false
set_option linter.unusedSimpArgs false

set_option maxRecDepth 100000 in
set_option maxHeartbeats 16000000 in
theorem rd_chk (bb off ln cap : Nat) (l : List Int) (z0 z1 z2 z3 : Int) (N : Nat) (w : World) (hB : Bytes w (.slice (some ⟨bb, off, none⟩) ln cap) l) (c0 : w.cell? ⟨bb, off, none⟩ = some (.int .u8 z0)) (c1 : w.cell? ⟨bb, off + 1, none⟩ = some (.int .u8 z1)) (c2 : w.cell? ⟨bb, off + 2, none⟩ = some (.int .u8 z2)) (c3 : w.cell? ⟨bb, off + 3, none⟩ = some (.int .u8 z3)) (i2 : 0 ≤ z2 ∧ z2 ≤ 255) (i3 : 0 ≤ z3 ∧ z3 ≤ 255) (hN : z2 * 256 + z3 = (N : Int)) (h4 : ¬ (ln : Int) < 4) (h5 : ¬ (N : Int) < 4) (h6 : ¬ (ln : Int) < ((r8 N : Nat) : Int)) (h7 : z0 = 0) (h8 : z1 = 1) (h9 : ¬ (1004 : Int) < (N : Int)) (L : List O6) (hP : POk ((l.take N).drop 4) L) (cc : Int) (hck : fo4 (mchk [] L) = .agg #[.bool true, .int .i64 4, .int .i64 cc]) :
    Calls Try.prog 21 #[.slice (some ⟨bb, off, none⟩) ln cap] w fun e w' => e = .returned (.tuple #[.slice none 0 0, .int .i64 0, .agg #[.bool true, .int .i64 4, .int .i64 cc]]) ∧ Below w.heap.size w w' := by
  subst h7 h8
  have F0 := hide_ (AB.at0 w 30 [.bool false, .int .i64 0, .int .i64 0])
  have B0 := hide_ (below1 w (.cells #[.bool false, .int .i64 0, .int .i64 0] 30))
  have qr := hide_ (fun k w => rmbad_any k w)
  have hml : ln ≤ 9223372036854775807 := by obtain ⟨h0, h1, h2⟩ := Bytes.at hB; unfold maxLen at *; omega
  have HB0 := hide_ (hB.later B0.out)
  have c0 := cell_later B0.out c0
  have c1 := cell_later B0.out c1
  have c2 := cell_later B0.out c2
  have c3 := cell_later B0.out c3
  have hq2 : IntKind.i64.wrap z2 = z2 := by rw [IntKind.wrap_i64]; omega
  have hq3 : IntKind.i64.wrap z3 = z3 := by rw [IntKind.wrap_i64]; omega
  have hq4 : IntKind.i64.wrap (z2 * 256) = z2 * 256 := by rw [IntKind.wrap_i64]; omega
  have hq5 : IntKind.i64.wrap (z2 * 256 + z3) = (N : Int) := by rw [IntKind.wrap_i64]; omega
  have hNb : N ≤ 65535 := by omega
  have h1' : IntKind.i64.wrap ((N : Int) + 7) = (N : Int) + 7 := by rw [IntKind.wrap_i64]; omega
  have ht : Int.tdiv ((N : Int) + 7) 8 = (((N + 7) / 8 : Nat) : Int) := by rw [Int.tdiv_eq_ediv_of_nonneg (by omega)]; omega
  have h2' : IntKind.i64.wrap (Int.tdiv ((N : Int) + 7) 8) = Int.tdiv ((N : Int) + 7) 8 := by rw [ht, IntKind.wrap_i64]; omega
  have h3' : IntKind.i64.wrap (Int.tdiv ((N : Int) + 7) 8 * 8) = ((r8 N : Nat) : Int) := by rw [ht, IntKind.wrap_i64]; unfold r8; omega
  have hrg := r8_ge N
  have hrl := r8_le N
  have g3 : (2 : Int) < (ln : Int) := by omega
  have g4 : (3 : Int) < (ln : Int) := by omega
  have g1 : (1 : Int) < (ln : Int) := by omega
  have g0 : (0 : Int) < (ln : Int) := by omega
  have hle : N ≤ l.length := by have := (Bytes.at hB).1; omega
  clear ht hB
  have HP : Hid (POk ((l.take N).drop 4) L ∧ [] ++ L = L) := hide_ ⟨hP, rfl⟩
  clear hP
  generalize r8 N = rr at *
  go_enter Try.func21, Try.ntmps21
  go_wp2_with fail
  go_quiet (fail)
  have KD : Below (w.alloc (.cells #[.bool false, .int .i64 0, .int .i64 0] 30)).heap.size (w.alloc (.cells #[.bool false, .int .i64 0, .int .i64 0] 30)) ((w.alloc (.cells #[.bool false, .int .i64 0, .int .i64 0] 30)).drewN nq) := below_drewN (Below.refl _ _) nq
  generalize (w.alloc (.cells #[.bool false, .int .i64 0, .int .i64 0] 30)).drewN nq = D at *
  have c0 := cell_later KD c0
  have c1 := cell_later KD c1
  obtain ⟨i0, hi0, hz0, hz1, hz2⟩ := info_parts infoO
  have HI : Hid (Try.prog.info? 51 = some i0 ∧ i0.zero = some (.agg #[.int .i64 0, .bool false, .int .u64 0, .int .u64 0, .int .u64 0, .int .u64 0]) ∧ i0.size = 6 ∧ i0.bytes = 48) := ⟨hi0, hz0, hz1, hz2⟩
  clear hi0 hz0 hz1 hz2
  go_wp2_with fail
  generalize decide (ln < rr) = x1 at *
  generalize decide ((N : Int) < 4) = x2 at *
  generalize decide ((1004 : Int) < (N : Int)) = x3 at *
  have OE : Hid ((D.alloc (.cells #[] 51)).ownsRow (w.alloc (.cells #[.bool false, .int .i64 0, .int .i64 0] 30)).heap.size 51 6 (.slice (some ⟨D.heap.size, 0, none⟩) 0 0) 0 (ods [])) := hide_ (World.ownsRow_lit D #[] 0 KD.size (Nat.zero_le _) rfl)
  have KE := hide_ (KD.trans ((below1 D (.cells #[] 51)).mono KD.size))
  generalize D.alloc (.cells #[] 51) = V at *
  generalize D.heap.size = gd at *
  clear KD
  go_loopw [7, 8] (fun u at_ wr => ∃ (ua : Option Addr) (uc : Nat) (pre : List O6) (a : Nat) (R : List O6), u = .slice ua pre.length uc ∧ at_ = .int .i64 (a : Int) ∧ 4 ≤ a ∧ a ≤ N ∧ pre.length + N ≤ 100000 + a ∧ Hid (wr.ownsRow (w.alloc (.cells #[.bool false, .int .i64 0, .int .i64 0] 30)).heap.size 51 6 (.slice ua pre.length uc) pre.length (ods pre)) ∧ Hid (POk ((l.take N).drop a) R ∧ pre ++ R = L) ∧ Hid (Below (w.alloc (.cells #[.bool false, .int .i64 0, .int .i64 0] 30)).heap.size (w.alloc (.cells #[.bool false, .int .i64 0, .int .i64 0] 30)) wr)) (fun _ at_ _ => N - (intOf at_).toNat)
  case atStart => exact ⟨some ⟨gd, 0, none⟩, 0, [], 4, L, rfl, rfl, Nat.le_refl _, by omega, by simp; omega, OE, HP, KE⟩
  case round =>
    obtain ⟨ua, uc, pre, a0, R, rfl, rfl, ha4, haN, hsum, HOw, HPP, KB⟩ := hrel
    obtain ⟨ao', hs1, hb1⟩ := bytes_mid HB0.out a0 N haN hle
    obtain ⟨mm, hmm⟩ : ∃ mm, (l.take N).drop a0 = mm := ⟨_, rfl⟩
    have hmlen : mm.length = N - a0 := by rw [← hmm, List.length_drop, List.length_take]; omega
    obtain ⟨hpo, hpre⟩ := HPP.out
    rw [hmm] at hb1 hpo
    have HMM := hide_ hmm
    have qd := rodec_any _ mm wr (hb1.later KB.out)
    clear HPP hmm hb1
    cases hpo with
    | nil =>
      have hlt' : ¬ (a0 : Int) < (N : Int) := by simp at hmlen; omega
      have hpr : pre = L := by simpa using hpre
      subst hpr
      clear qd hpre hs1
      have OX := hide_ (OxAt.ofOwn HOw.out)
      have qk := rcheck_any _ pre wr OX.out
      rw [hck] at qk
      have qk := hide_ qk
      clear hck
      go_upto_region 21 with (first | (go_at_call 13; refine qk.out.mono ?_; rintro e w6 ⟨rfl, b6⟩; have j6 : Below wr.heap.size wr (w6.alloc (.cells #[.bool true, .int .i64 4, .int .i64 cc] 30)) := b6.trans ((below1 w6 _).mono b6.size); have K6 := KB.out.trans (j6.mono KB.out.size); obtain ⟨f0, f1, f2, -⟩ := (AB.at0 w6 30 [.bool true, .int .i64 4, .int .i64 cc]).three))
      have BX := B0.out.trans (K6.mono B0.out.size)
      have hgw : w.heap.size < w6.heap.size := Nat.lt_of_lt_of_le (Nat.lt_of_lt_of_le (by simp) KB.out.size) b6.size
      have FD := F0.out.later K6
      generalize (w6.alloc (.cells #[.bool true, .int .i64 4, .int .i64 cc] 30)) = X at *
      have FD : AB X.drew w.heap.size 30 [.bool false, .int .i64 0, .int .i64 0] := FD
      obtain ⟨s0, s1, s2, s3, s4, s5⟩ := FD.three
      obtain ⟨u0, u1, u2, -⟩ := (FD.set3 (.bool true) (.int .i64 4) (.int .i64 cc)).three
      clear FD
      refine wp_region_held_drew (S := (fun w' => w'.cell? ⟨w6.heap.size, 0, none⟩ = some (.bool true) ∧ w'.cell? ⟨w6.heap.size, 1, none⟩ = some (.int .i64 4) ∧ w'.cell? ⟨w6.heap.size, 2, none⟩ = some (.int .i64 cc) ∧ Below w.heap.size w w')) (by kernel_rfl) (⟨f0, f1, f2, BX.drew⟩) (fun hHeld => ?_)
      generalize X.drew = D5 at *
      refine takeR (i := 0) (v := ?_) rfl (by kernel_rfl) (by kernel_rfl) (by kernel_rfl) (some 85) rfl (Or.inl ⟨by rfl, ?_⟩) (fun _ _ _ h => h) (by assumption) ?_
      rotate_left
      · intro w hSw; (try dsimp only at hSw); go_simp; (try with_reducible rfl)
      simp only [Act.put, List.setIfInBounds_toArray, List.set_cons_zero, List.set_cons_succ]
      refine takeR (i := 1) (v := ?_) rfl (by kernel_rfl) (by kernel_rfl) (by kernel_rfl) (some 2) rfl (Or.inl ⟨by rfl, ?_⟩) (fun _ _ _ h => h) (by assumption) ?_
      rotate_left
      · intro w hSw; (try dsimp only at hSw); go_simp; (try with_reducible rfl)
      simp only [Act.put, List.setIfInBounds_toArray, List.set_cons_zero, List.set_cons_succ]
      refine takeR (i := 2) (v := ?_) rfl (by kernel_rfl) (by kernel_rfl) (by kernel_rfl) (some 3) rfl (Or.inl ⟨by rfl, ?_⟩) (fun _ _ _ h => h) (by assumption) ?_
      rotate_left
      · intro w hSw; (try dsimp only at hSw); go_simp; (try with_reducible rfl)
      simp only [Act.put, List.setIfInBounds_toArray, List.set_cons_zero, List.set_cons_succ]
      refine wpAnyH_ready (rs := [3]) (by kernel_rfl) (by simp) ?_
      refine AllReadyH.cons rfl (fun K hK => ?_) (AllReadyH.nil)
      go_simp
      refine hK.out _ _ (kW3_3 hHeld (by omega) (by dsimp only; omega) (by dsimp only; omega) (by dsimp only; omega)) (fun hHeld => ?_)
      clear hK K
      try simp only [Act.put, List.setIfInBounds_toArray, List.set_cons_zero, List.set_cons_succ]
      refine wpAnyH_done (by kernel_rfl) ?_ _
      go_wp2_with fail
      exact bodyPost_ret (v := .tuple #[.slice none 0 0, .int .i64 0, .agg #[.bool true, .int .i64 4, .int .i64 cc]]) (by simp [results, Try.results21, go_sem, u0, u1, u2]) rfl ⟨rfl, hHeld.2.2.2⟩
    | @cons _ f m a b c d nn RR hd hr h0 hle2 he g1 g2 g3 g4 hrest =>
      have HPRE := hide_ hpre
      clear hpre
      rw [hd] at qd
      unfold ov fv at qd
      have qd := hide_ qd
      have hla : a0 + nn ≤ N := by omega
      have hlt' : (a0 : Int) < (N : Int) := by omega
      have hadd : IntKind.i64.wrap ((a0 : Int) + (nn : Int)) = ((a0 + nn : Nat) : Int) := by rw [IntKind.wrap_i64]; omega
      have hdrop : mm.drop nn = (l.take N).drop (a0 + nn) := by rw [← HMM.out, List.drop_drop]
      clear hd
      go_wp2_with (first | (go_at_call 54; refine (qd.out).mono ?_; rintro e w3 ⟨rfl, b3⟩; have j3 : Below wr.heap.size wr ((w3.alloc (.cells #[.int .i64 f, .bool m, .int .u64 (a : Int), .int .u64 (b : Int), .int .u64 (c : Int), .int .u64 (d : Int)] 51)).alloc (.cells #[.bool false, .int .i64 0, .int .i64 0] 30)) := b3.trans ((below2 w3 _ _).mono b3.size); have K3 := KB.out.trans (j3.mono KB.out.size); obtain ⟨o0, o1, o2, o3, o4, o5, -⟩ := ((AB.at0 w3 51 [.int .i64 f, .bool m, .int .u64 (a : Int), .int .u64 (b : Int), .int .u64 (c : Int), .int .u64 (d : Int)]).alloc (.cells #[.bool false, .int .i64 0, .int .i64 0] 30)).six; obtain ⟨f0, f1, f2, -⟩ := (AB.at1 w3 (.cells #[.int .i64 f, .bool m, .int .u64 (a : Int), .int .u64 (b : Int), .int .u64 (c : Int), .int .u64 (d : Int)] 51) 30 [.bool false, .int .i64 0, .int .i64 0]).three) | (at_builtin; refine wpList_append_new (.tmp 74) (.tmp 76) 22 rfl 51 i0 (.agg #[.int .i64 0, .bool false, .int .u64 0, .int .u64 0, .int .u64 0, .int .u64 0]) 6 48 Try.underlying22 HI.out.1 HI.out.2.1 HI.out.2.2.1 HI.out.2.2.2 rfl (by decide) (w.alloc (.cells #[.bool false, .int .i64 0, .int .i64 0] 30)).heap.size (.slice ua pre.length uc) pre.length (ods pre) (by simp [Act.eval, Act.put]) ((w3.alloc (.cells #[.int .i64 f, .bool m, .int .u64 (a : Int), .int .u64 (b : Int), .int .u64 (c : Int), .int .u64 (d : Int)] 51)).alloc (.cells #[.bool false, .int .i64 0, .int .i64 0] 30)) (own6_later HOw.out j3) [.int .i64 f, .bool m, .int .u64 (a : Int), .int .u64 (b : Int), .int .u64 (c : Int), .int .u64 (d : Int)] _ rfl 1 (by simp) (by simp [Value.oneCell']) (by simp [Act.eval, Act.put]) (by simp [Region.wanted]) (by unfold maxLen; omega) (by omega) K3.size ?_; intro v4 w4 own4 b4))
      have own4 : w4.ownsRow (w.alloc (.cells #[.bool false, .int .i64 0, .int .i64 0] 30)).heap.size 51 6 v4 (pre ++ [(f, m, a, b, c, d)]).length (ods (pre ++ [(f, m, a, b, c, d)])) := by
        rw [ods_snoc, List.length_append]
        exact own4
      obtain ⟨ua4, uc4, e4⟩ : ∃ ua4 uc4, v4 = .slice ua4 (pre ++ [(f, m, a, b, c, d)]).length uc4 := by
        rcases own4.2 with ⟨_, h0⟩ | ⟨g, cp, cur, rfl, _⟩
        · simp at h0
        · exact ⟨_, _, rfl⟩
      subst e4
      have own4 := hide_ own4
      go_wp2
      go_roundw
      case rel => exact ⟨ua4, uc4, pre ++ [(f, m, a, b, c, d)], a0 + nn, RR, rfl, rfl, by omega, hla, by simp; omega, own4, hide_ ⟨by rw [← hdrop]; exact hrest, by rw [← HPRE.out]; simp⟩, hide_ (K3.trans b4)⟩
      case measure => simp [intOf]; omega
end

section
open Go Go.RowKit
set_option linter.unusedVariables false
set_option linter.unusedSimpArgs false

set_option maxRecDepth 100000 in
set_option maxHeartbeats 16000000 in
theorem rd_nz (bb off ln cap : Nat) (l : List Int) (z0 z1 z2 z3 : Int) (N : Nat) (w : World) (hB : Bytes w (.slice (some ⟨bb, off, none⟩) ln cap) l) (c0 : w.cell? ⟨bb, off, none⟩ = some (.int .u8 z0)) (c1 : w.cell? ⟨bb, off + 1, none⟩ = some (.int .u8 z1)) (c2 : w.cell? ⟨bb, off + 2, none⟩ = some (.int .u8 z2)) (c3 : w.cell? ⟨bb, off + 3, none⟩ = some (.int .u8 z3)) (i2 : 0 ≤ z2 ∧ z2 ≤ 255) (i3 : 0 ≤ z3 ∧ z3 ≤ 255) (hN : z2 * 256 + z3 = (N : Int)) (h4 : ¬ (ln : Int) < 4) (h5 : ¬ (N : Int) < 4) (h6 : ¬ (ln : Int) < ((r8 N : Nat) : Int)) (h7 : z0 = 0) (h8 : z1 = 1) (h9 : ¬ (1004 : Int) < (N : Int)) (L : List O6) (hP : POk ((l.take N).drop 4) L) (hck : fo4 (mchk [] L) = .agg #[.bool false, .int .i64 0, .int .i64 0]) (hnz : nzB ((l.take (r8 N)).drop N) = true) :
    Calls Try.prog 21 #[.slice (some ⟨bb, off, none⟩) ln cap] w fun e w' => e = .returned (.tuple #[.slice none 0 0, .int .i64 0, .agg #[.bool true, .int .i64 4, .int .i64 1]]) ∧ Below w.heap.size w w' := by
  subst h7 h8
  have F0 := hide_ (AB.at0 w 30 [.bool false, .int .i64 0, .int .i64 0])
  have B0 := hide_ (below1 w (.cells #[.bool false, .int .i64 0, .int .i64 0] 30))
  have qr := hide_ (fun k w => rmbad_any k w)
  have hml : ln ≤ 9223372036854775807 := by obtain ⟨h0, h1, h2⟩ := Bytes.at hB; unfold maxLen at *; omega
  have HB0 := hide_ (hB.later B0.out)
  have c0 := cell_later B0.out c0
  have c1 := cell_later B0.out c1
  have c2 := cell_later B0.out c2
  have c3 := cell_later B0.out c3
  have hq2 : IntKind.i64.wrap z2 = z2 := by rw [IntKind.wrap_i64]; omega
  have hq3 : IntKind.i64.wrap z3 = z3 := by rw [IntKind.wrap_i64]; omega
  have hq4 : IntKind.i64.wrap (z2 * 256) = z2 * 256 := by rw [IntKind.wrap_i64]; omega
  have hq5 : IntKind.i64.wrap (z2 * 256 + z3) = (N : Int) := by rw [IntKind.wrap_i64]; omega
  have hNb : N ≤ 65535 := by omega
  have h1' : IntKind.i64.wrap ((N : Int) + 7) = (N : Int) + 7 := by rw [IntKind.wrap_i64]; omega
  have ht : Int.tdiv ((N : Int) + 7) 8 = (((N + 7) / 8 : Nat) : Int) := by rw [Int.tdiv_eq_ediv_of_nonneg (by omega)]; omega
  have h2' : IntKind.i64.wrap (Int.tdiv ((N : Int) + 7) 8) = Int.tdiv ((N : Int) + 7) 8 := by rw [ht, IntKind.wrap_i64]; omega
  have h3' : IntKind.i64.wrap (Int.tdiv ((N : Int) + 7) 8 * 8) = ((r8 N : Nat) : Int) := by rw [ht, IntKind.wrap_i64]; unfold r8; omega
  have hrg := r8_ge N
  have hrl := r8_le N
  have g3 : (2 : Int) < (ln : Int) := by omega
  have g4 : (3 : Int) < (ln : Int) := by omega
  have g1 : (1 : Int) < (ln : Int) := by omega
  have g0 : (0 : Int) < (ln : Int) := by omega
  have hle : N ≤ l.length := by have := (Bytes.at hB).1; omega
  clear ht hB
  have HP : Hid (POk ((l.take N).drop 4) L ∧ [] ++ L = L) := hide_ ⟨hP, rfl⟩
  clear hP
  have HNW := hide_ hnz
  clear hnz
  generalize r8 N = rr at *
  go_enter Try.func21, Try.ntmps21
  go_wp2_with fail
  go_quiet (fail)
  have KD : Below (w.alloc (.cells #[.bool false, .int .i64 0, .int .i64 0] 30)).heap.size (w.alloc (.cells #[.bool false, .int .i64 0, .int .i64 0] 30)) ((w.alloc (.cells #[.bool false, .int .i64 0, .int .i64 0] 30)).drewN nq) := below_drewN (Below.refl _ _) nq
  generalize (w.alloc (.cells #[.bool false, .int .i64 0, .int .i64 0] 30)).drewN nq = D at *
  have c0 := cell_later KD c0
  have c1 := cell_later KD c1
  obtain ⟨i0, hi0, hz0, hz1, hz2⟩ := info_parts infoO
  have HI : Hid (Try.prog.info? 51 = some i0 ∧ i0.zero = some (.agg #[.int .i64 0, .bool false, .int .u64 0, .int .u64 0, .int .u64 0, .int .u64 0]) ∧ i0.size = 6 ∧ i0.bytes = 48) := ⟨hi0, hz0, hz1, hz2⟩
  clear hi0 hz0 hz1 hz2
  go_wp2_with fail
  generalize decide (ln < rr) = x1 at *
  generalize decide ((N : Int) < 4) = x2 at *
  generalize decide ((1004 : Int) < (N : Int)) = x3 at *
  have OE : Hid ((D.alloc (.cells #[] 51)).ownsRow (w.alloc (.cells #[.bool false, .int .i64 0, .int .i64 0] 30)).heap.size 51 6 (.slice (some ⟨D.heap.size, 0, none⟩) 0 0) 0 (ods [])) := hide_ (World.ownsRow_lit D #[] 0 KD.size (Nat.zero_le _) rfl)
  have KE := hide_ (KD.trans ((below1 D (.cells #[] 51)).mono KD.size))
  generalize D.alloc (.cells #[] 51) = V at *
  generalize D.heap.size = gd at *
  clear KD
  go_loopw [7, 8] (fun u at_ wr => ∃ (ua : Option Addr) (uc : Nat) (pre : List O6) (a : Nat) (R : List O6), u = .slice ua pre.length uc ∧ at_ = .int .i64 (a : Int) ∧ 4 ≤ a ∧ a ≤ N ∧ pre.length + N ≤ 100000 + a ∧ Hid (wr.ownsRow (w.alloc (.cells #[.bool false, .int .i64 0, .int .i64 0] 30)).heap.size 51 6 (.slice ua pre.length uc) pre.length (ods pre)) ∧ Hid (POk ((l.take N).drop a) R ∧ pre ++ R = L) ∧ Hid (Below (w.alloc (.cells #[.bool false, .int .i64 0, .int .i64 0] 30)).heap.size (w.alloc (.cells #[.bool false, .int .i64 0, .int .i64 0] 30)) wr)) (fun _ at_ _ => N - (intOf at_).toNat)
  case atStart => exact ⟨some ⟨gd, 0, none⟩, 0, [], 4, L, rfl, rfl, Nat.le_refl _, by omega, by simp; omega, OE, HP, KE⟩
  case round =>
    obtain ⟨ua, uc, pre, a0, R, rfl, rfl, ha4, haN, hsum, HOw, HPP, KB⟩ := hrel
    obtain ⟨ao', hs1, hb1⟩ := bytes_mid HB0.out a0 N haN hle
    obtain ⟨mm, hmm⟩ : ∃ mm, (l.take N).drop a0 = mm := ⟨_, rfl⟩
    have hmlen : mm.length = N - a0 := by rw [← hmm, List.length_drop, List.length_take]; omega
    obtain ⟨hpo, hpre⟩ := HPP.out
    rw [hmm] at hb1 hpo
    have HMM := hide_ hmm
    have qd := rodec_any _ mm wr (hb1.later KB.out)
    clear HPP hmm hb1
    cases hpo with
    | nil =>
      have hlt' : ¬ (a0 : Int) < (N : Int) := by simp at hmlen; omega
      have hpr : pre = L := by simpa using hpre
      subst hpr
      clear qd hpre hs1
      have OX := hide_ (OxAt.ofOwn HOw.out)
      have qk := rcheck_any _ pre wr OX.out
      rw [hck] at qk
      have qk := hide_ qk
      clear hck
      have hBat := hide_ (Bytes.at HB0.out).2.2.2
      have hll := (Bytes.at HB0.out).1
      go_wp2_with (first | (go_at_call 13; refine qk.out.mono ?_; rintro e w6 ⟨rfl, b6⟩; have j6 : Below wr.heap.size wr (w6.alloc (.cells #[.bool false, .int .i64 0, .int .i64 0] 30)) := b6.trans ((below1 w6 _).mono b6.size); have K6 := KB.out.trans (j6.mono KB.out.size); obtain ⟨f0, f1, f2, -⟩ := (AB.at0 w6 30 [.bool false, .int .i64 0, .int .i64 0]).three))
      have OW := hide_ (own6_later HOw.out j6)
      have K6 := hide_ K6
      generalize (w6.alloc (.cells #[.bool false, .int .i64 0, .int .i64 0] 30)) = X at *
      clear b6 j6 f0 f1 f2
      go_loopw [13] (fun i wr => ∃ k : Nat, N ≤ k ∧ k ≤ rr ∧ i = .int .i64 (k : Int) ∧ Hid (nzB ((l.take k).drop N) = false) ∧ Hid (wr.ownsRow (w.alloc (.cells #[.bool false, .int .i64 0, .int .i64 0] 30)).heap.size 51 6 (.slice ua pre.length uc) pre.length (ods pre)) ∧ Hid (Below (w.alloc (.cells #[.bool false, .int .i64 0, .int .i64 0] 30)).heap.size (w.alloc (.cells #[.bool false, .int .i64 0, .int .i64 0] 30)) wr)) (fun i _ => rr - (intOf i).toNat)
      case atStart => exact ⟨N, Nat.le_refl _, hrg, rfl, hide_ (by rw [List.drop_eq_nil_of_le (by simp; omega)]; rfl), OW, K6⟩
      case round =>
        obtain ⟨k, hkN, hkr, rfl, HNZ, HOW, KK⟩ := hrel
        by_cases hkl : k < rr
        · obtain ⟨z, hz⟩ : ∃ z, l[k]? = some z := ⟨_, List.getElem?_eq_getElem (by omega)⟩
          obtain ⟨b2, off2, e2, cz⟩ := hBat.out k z hz
          cases e2
          have cz := cell_later KK.out cz
          have HZ := hide_ hz
          clear hz
          have hk1 : (k : Int) < (rr : Int) := by omega
          have hk2 : (k : Int) < (ln : Int) := by omega
          have htk : (l.take (k + 1)).drop N = (l.take k).drop N ++ [z] := by rw [List.take_add_one, HZ.out, List.drop_append_of_le_length (by simp; omega)]; rfl
          by_cases h0 : z = 0
          · subst h0
            go_wp2
            go_roundw
            case rel => exact ⟨k + 1, by omega, by omega, by go_num, hide_ (by rw [htk]; have := HNZ.out; unfold nzB at *; rw [List.any_append, this]; rfl), HOW, KK⟩
            case measure => simp [intOf]; omega
          · have hne : (z != 0) = true := by simpa using h0
            have H0 := hide_ h0
            clear h0
            have K4 := KK.out
            go_wp2_with (go_at_call 38; refine (qr.out _ _).mono ?_; rintro e w5 ⟨rfl, b5⟩; have K5 := K4.trans (b5.mono K4.size); obtain ⟨s0, s1, s2, s3, s4, s5⟩ := (F0.out.later K5).three; obtain ⟨u0, u1, u2, -⟩ := ((F0.out.later K5).set3 (.bool true) (.int .i64 4) (.int .i64 1)).three; have bb := below_set3 (g := w.heap.size) (B0.out.trans (K5.mono B0.out.size)) (Nat.le_refl _) (.bool true) (.int .i64 4) (.int .i64 1))
            exact bodyPost_ret (v := .tuple #[.slice none 0 0, .int .i64 0, .agg #[.bool true, .int .i64 4, .int .i64 1]]) (by simp [results, Try.results21, go_sem, u0, u1, u2]) rfl ⟨rfl, bb⟩
        · have hk1 : ¬ (k : Int) < (rr : Int) := by omega
          obtain rfl : k = rr := by omega
          exact absurd HNZ.out (by rw [HNW.out]; decide)
    | @cons _ f m a b c d nn RR hd hr h0 hle2 he g1 g2 g3 g4 hrest =>
      have HPRE := hide_ hpre
      clear hpre
      rw [hd] at qd
      unfold ov fv at qd
      have qd := hide_ qd
      have hla : a0 + nn ≤ N := by omega
      have hlt' : (a0 : Int) < (N : Int) := by omega
      have hadd : IntKind.i64.wrap ((a0 : Int) + (nn : Int)) = ((a0 + nn : Nat) : Int) := by rw [IntKind.wrap_i64]; omega
      have hdrop : mm.drop nn = (l.take N).drop (a0 + nn) := by rw [← HMM.out, List.drop_drop]
      clear hd
      go_wp2_with (first | (go_at_call 54; refine (qd.out).mono ?_; rintro e w3 ⟨rfl, b3⟩; have j3 : Below wr.heap.size wr ((w3.alloc (.cells #[.int .i64 f, .bool m, .int .u64 (a : Int), .int .u64 (b : Int), .int .u64 (c : Int), .int .u64 (d : Int)] 51)).alloc (.cells #[.bool false, .int .i64 0, .int .i64 0] 30)) := b3.trans ((below2 w3 _ _).mono b3.size); have K3 := KB.out.trans (j3.mono KB.out.size); obtain ⟨o0, o1, o2, o3, o4, o5, -⟩ := ((AB.at0 w3 51 [.int .i64 f, .bool m, .int .u64 (a : Int), .int .u64 (b : Int), .int .u64 (c : Int), .int .u64 (d : Int)]).alloc (.cells #[.bool false, .int .i64 0, .int .i64 0] 30)).six; obtain ⟨f0, f1, f2, -⟩ := (AB.at1 w3 (.cells #[.int .i64 f, .bool m, .int .u64 (a : Int), .int .u64 (b : Int), .int .u64 (c : Int), .int .u64 (d : Int)] 51) 30 [.bool false, .int .i64 0, .int .i64 0]).three) | (at_builtin; refine wpList_append_new (.tmp 74) (.tmp 76) 22 rfl 51 i0 (.agg #[.int .i64 0, .bool false, .int .u64 0, .int .u64 0, .int .u64 0, .int .u64 0]) 6 48 Try.underlying22 HI.out.1 HI.out.2.1 HI.out.2.2.1 HI.out.2.2.2 rfl (by decide) (w.alloc (.cells #[.bool false, .int .i64 0, .int .i64 0] 30)).heap.size (.slice ua pre.length uc) pre.length (ods pre) (by simp [Act.eval, Act.put]) ((w3.alloc (.cells #[.int .i64 f, .bool m, .int .u64 (a : Int), .int .u64 (b : Int), .int .u64 (c : Int), .int .u64 (d : Int)] 51)).alloc (.cells #[.bool false, .int .i64 0, .int .i64 0] 30)) (own6_later HOw.out j3) [.int .i64 f, .bool m, .int .u64 (a : Int), .int .u64 (b : Int), .int .u64 (c : Int), .int .u64 (d : Int)] _ rfl 1 (by simp) (by simp [Value.oneCell']) (by simp [Act.eval, Act.put]) (by simp [Region.wanted]) (by unfold maxLen; omega) (by omega) K3.size ?_; intro v4 w4 own4 b4))
      have own4 : w4.ownsRow (w.alloc (.cells #[.bool false, .int .i64 0, .int .i64 0] 30)).heap.size 51 6 v4 (pre ++ [(f, m, a, b, c, d)]).length (ods (pre ++ [(f, m, a, b, c, d)])) := by
        rw [ods_snoc, List.length_append]
        exact own4
      obtain ⟨ua4, uc4, e4⟩ : ∃ ua4 uc4, v4 = .slice ua4 (pre ++ [(f, m, a, b, c, d)]).length uc4 := by
        rcases own4.2 with ⟨_, h0⟩ | ⟨g, cp, cur, rfl, _⟩
        · simp at h0
        · exact ⟨_, _, rfl⟩
      subst e4
      have own4 := hide_ own4
      go_wp2
      go_roundw
      case rel => exact ⟨ua4, uc4, pre ++ [(f, m, a, b, c, d)], a0 + nn, RR, rfl, rfl, by omega, hla, by simp; omega, own4, hide_ ⟨by rw [← hdrop]; exact hrest, by rw [← HPRE.out]; simp⟩, hide_ (K3.trans b4)⟩
      case measure => simp [intOf]; omega
end

section
open Go Go.RowKit
set_option linter.unusedVariables false
set_option linter.unusedSimpArgs false

set_option maxRecDepth 100000 in
set_option maxHeartbeats 16000000 in
theorem rd_ok (bb off ln cap : Nat) (l : List Int) (z0 z1 z2 z3 : Int) (N : Nat) (w : World) (hB : Bytes w (.slice (some ⟨bb, off, none⟩) ln cap) l) (c0 : w.cell? ⟨bb, off, none⟩ = some (.int .u8 z0)) (c1 : w.cell? ⟨bb, off + 1, none⟩ = some (.int .u8 z1)) (c2 : w.cell? ⟨bb, off + 2, none⟩ = some (.int .u8 z2)) (c3 : w.cell? ⟨bb, off + 3, none⟩ = some (.int .u8 z3)) (i2 : 0 ≤ z2 ∧ z2 ≤ 255) (i3 : 0 ≤ z3 ∧ z3 ≤ 255) (hN : z2 * 256 + z3 = (N : Int)) (h4 : ¬ (ln : Int) < 4) (h5 : ¬ (N : Int) < 4) (h6 : ¬ (ln : Int) < ((r8 N : Nat) : Int)) (h7 : z0 = 0) (h8 : z1 = 1) (h9 : ¬ (1004 : Int) < (N : Int)) (L : List O6) (hP : POk ((l.take N).drop 4) L) (hck : fo4 (mchk [] L) = .agg #[.bool false, .int .i64 0, .int .i64 0]) (hnz : nzB ((l.take (r8 N)).drop N) = false) :
    Calls Try.prog 21 #[.slice (some ⟨bb, off, none⟩) ln cap] w fun e w' => (∃ r, e = .returned (.tuple #[r, .int .i64 ((r8 N : Nat) : Int), .agg #[.bool false, .int .i64 0, .int .i64 0]]) ∧ OxAt w' r L) ∧ Below w.heap.size w w' := by
  subst h7 h8
  have F0 := hide_ (AB.at0 w 30 [.bool false, .int .i64 0, .int .i64 0])
  have B0 := hide_ (below1 w (.cells #[.bool false, .int .i64 0, .int .i64 0] 30))
  have qr := hide_ (fun k w => rmbad_any k w)
  have hml : ln ≤ 9223372036854775807 := by obtain ⟨h0, h1, h2⟩ := Bytes.at hB; unfold maxLen at *; omega
  have HB0 := hide_ (hB.later B0.out)
  have c0 := cell_later B0.out c0
  have c1 := cell_later B0.out c1
  have c2 := cell_later B0.out c2
  have c3 := cell_later B0.out c3
  have hq2 : IntKind.i64.wrap z2 = z2 := by rw [IntKind.wrap_i64]; omega
  have hq3 : IntKind.i64.wrap z3 = z3 := by rw [IntKind.wrap_i64]; omega
  have hq4 : IntKind.i64.wrap (z2 * 256) = z2 * 256 := by rw [IntKind.wrap_i64]; omega
  have hq5 : IntKind.i64.wrap (z2 * 256 + z3) = (N : Int) := by rw [IntKind.wrap_i64]; omega
  have hNb : N ≤ 65535 := by omega
  have h1' : IntKind.i64.wrap ((N : Int) + 7) = (N : Int) + 7 := by rw [IntKind.wrap_i64]; omega
  have ht : Int.tdiv ((N : Int) + 7) 8 = (((N + 7) / 8 : Nat) : Int) := by rw [Int.tdiv_eq_ediv_of_nonneg (by omega)]; omega
  have h2' : IntKind.i64.wrap (Int.tdiv ((N : Int) + 7) 8) = Int.tdiv ((N : Int) + 7) 8 := by rw [ht, IntKind.wrap_i64]; omega
  have h3' : IntKind.i64.wrap (Int.tdiv ((N : Int) + 7) 8 * 8) = ((r8 N : Nat) : Int) := by rw [ht, IntKind.wrap_i64]; unfold r8; omega
  have hrg := r8_ge N
  have hrl := r8_le N
  have g3 : (2 : Int) < (ln : Int) := by omega
  have g4 : (3 : Int) < (ln : Int) := by omega
  have g1 : (1 : Int) < (ln : Int) := by omega
  have g0 : (0 : Int) < (ln : Int) := by omega
  have hle : N ≤ l.length := by have := (Bytes.at hB).1; omega
  clear ht hB
  have HP : Hid (POk ((l.take N).drop 4) L ∧ [] ++ L = L) := hide_ ⟨hP, rfl⟩
  clear hP
  have HNW := hide_ hnz
  clear hnz
  generalize r8 N = rr at *
  go_enter Try.func21, Try.ntmps21
  go_wp2_with fail
  go_quiet (fail)
  have KD : Below (w.alloc (.cells #[.bool false, .int .i64 0, .int .i64 0] 30)).heap.size (w.alloc (.cells #[.bool false, .int .i64 0, .int .i64 0] 30)) ((w.alloc (.cells #[.bool false, .int .i64 0, .int .i64 0] 30)).drewN nq) := below_drewN (Below.refl _ _) nq
  generalize (w.alloc (.cells #[.bool false, .int .i64 0, .int .i64 0] 30)).drewN nq = D at *
  have c0 := cell_later KD c0
  have c1 := cell_later KD c1
  obtain ⟨i0, hi0, hz0, hz1, hz2⟩ := info_parts infoO
  have HI : Hid (Try.prog.info? 51 = some i0 ∧ i0.zero = some (.agg #[.int .i64 0, .bool false, .int .u64 0, .int .u64 0, .int .u64 0, .int .u64 0]) ∧ i0.size = 6 ∧ i0.bytes = 48) := ⟨hi0, hz0, hz1, hz2⟩
  clear hi0 hz0 hz1 hz2
  go_wp2_with fail
  generalize decide (ln < rr) = x1 at *
  generalize decide ((N : Int) < 4) = x2 at *
  generalize decide ((1004 : Int) < (N : Int)) = x3 at *
  have OE : Hid ((D.alloc (.cells #[] 51)).ownsRow (w.alloc (.cells #[.bool false, .int .i64 0, .int .i64 0] 30)).heap.size 51 6 (.slice (some ⟨D.heap.size, 0, none⟩) 0 0) 0 (ods [])) := hide_ (World.ownsRow_lit D #[] 0 KD.size (Nat.zero_le _) rfl)
  have KE := hide_ (KD.trans ((below1 D (.cells #[] 51)).mono KD.size))
  generalize D.alloc (.cells #[] 51) = V at *
  generalize D.heap.size = gd at *
  clear KD
  go_loopw [7, 8] (fun u at_ wr => ∃ (ua : Option Addr) (uc : Nat) (pre : List O6) (a : Nat) (R : List O6), u = .slice ua pre.length uc ∧ at_ = .int .i64 (a : Int) ∧ 4 ≤ a ∧ a ≤ N ∧ pre.length + N ≤ 100000 + a ∧ Hid (wr.ownsRow (w.alloc (.cells #[.bool false, .int .i64 0, .int .i64 0] 30)).heap.size 51 6 (.slice ua pre.length uc) pre.length (ods pre)) ∧ Hid (POk ((l.take N).drop a) R ∧ pre ++ R = L) ∧ Hid (Below (w.alloc (.cells #[.bool false, .int .i64 0, .int .i64 0] 30)).heap.size (w.alloc (.cells #[.bool false, .int .i64 0, .int .i64 0] 30)) wr)) (fun _ at_ _ => N - (intOf at_).toNat)
  case atStart => exact ⟨some ⟨gd, 0, none⟩, 0, [], 4, L, rfl, rfl, Nat.le_refl _, by omega, by simp; omega, OE, HP, KE⟩
  case round =>
    obtain ⟨ua, uc, pre, a0, R, rfl, rfl, ha4, haN, hsum, HOw, HPP, KB⟩ := hrel
    obtain ⟨ao', hs1, hb1⟩ := bytes_mid HB0.out a0 N haN hle
    obtain ⟨mm, hmm⟩ : ∃ mm, (l.take N).drop a0 = mm := ⟨_, rfl⟩
    have hmlen : mm.length = N - a0 := by rw [← hmm, List.length_drop, List.length_take]; omega
    obtain ⟨hpo, hpre⟩ := HPP.out
    rw [hmm] at hb1 hpo
    have HMM := hide_ hmm
    have qd := rodec_any _ mm wr (hb1.later KB.out)
    clear HPP hmm hb1
    cases hpo with
    | nil =>
      have hlt' : ¬ (a0 : Int) < (N : Int) := by simp at hmlen; omega
      have hpr : pre = L := by simpa using hpre
      subst hpr
      clear qd hpre hs1
      have OX := hide_ (OxAt.ofOwn HOw.out)
      have qk := rcheck_any _ pre wr OX.out
      rw [hck] at qk
      have qk := hide_ qk
      clear hck
      have hBat := hide_ (Bytes.at HB0.out).2.2.2
      have hll := (Bytes.at HB0.out).1
      go_wp2_with (first | (go_at_call 13; refine qk.out.mono ?_; rintro e w6 ⟨rfl, b6⟩; have j6 : Below wr.heap.size wr (w6.alloc (.cells #[.bool false, .int .i64 0, .int .i64 0] 30)) := b6.trans ((below1 w6 _).mono b6.size); have K6 := KB.out.trans (j6.mono KB.out.size); obtain ⟨f0, f1, f2, -⟩ := (AB.at0 w6 30 [.bool false, .int .i64 0, .int .i64 0]).three))
      have OW := hide_ (own6_later HOw.out j6)
      have K6 := hide_ K6
      generalize (w6.alloc (.cells #[.bool false, .int .i64 0, .int .i64 0] 30)) = X at *
      clear b6 j6 f0 f1 f2
      go_loopw [13] (fun i wr => ∃ k : Nat, N ≤ k ∧ k ≤ rr ∧ i = .int .i64 (k : Int) ∧ Hid (nzB ((l.take k).drop N) = false) ∧ Hid (wr.ownsRow (w.alloc (.cells #[.bool false, .int .i64 0, .int .i64 0] 30)).heap.size 51 6 (.slice ua pre.length uc) pre.length (ods pre)) ∧ Hid (Below (w.alloc (.cells #[.bool false, .int .i64 0, .int .i64 0] 30)).heap.size (w.alloc (.cells #[.bool false, .int .i64 0, .int .i64 0] 30)) wr)) (fun i _ => rr - (intOf i).toNat)
      case atStart => exact ⟨N, Nat.le_refl _, hrg, rfl, hide_ (by rw [List.drop_eq_nil_of_le (by simp; omega)]; rfl), OW, K6⟩
      case round =>
        obtain ⟨k, hkN, hkr, rfl, HNZ, HOW, KK⟩ := hrel
        by_cases hkl : k < rr
        · obtain ⟨z, hz⟩ : ∃ z, l[k]? = some z := ⟨_, List.getElem?_eq_getElem (by omega)⟩
          obtain ⟨b2, off2, e2, cz⟩ := hBat.out k z hz
          cases e2
          have cz := cell_later KK.out cz
          have HZ := hide_ hz
          clear hz
          have hk1 : (k : Int) < (rr : Int) := by omega
          have hk2 : (k : Int) < (ln : Int) := by omega
          have htk : (l.take (k + 1)).drop N = (l.take k).drop N ++ [z] := by rw [List.take_add_one, HZ.out, List.drop_append_of_le_length (by simp; omega)]; rfl
          by_cases h0 : z = 0
          · subst h0
            go_wp2
            go_roundw
            case rel => exact ⟨k + 1, by omega, by omega, by go_num, hide_ (by rw [htk]; have := HNZ.out; unfold nzB at *; rw [List.any_append, this]; rfl), HOW, KK⟩
            case measure => simp [intOf]; omega
          · have hne : (z != 0) = true := by simpa using h0
            have H0 := hide_ h0
            clear h0
            exfalso
            have e1 : nzB ((l.take rr).drop N) = true := by
              unfold nzB
              rw [List.any_eq_true]
              refine ⟨z, List.mem_of_getElem? (i := k - N) ?_, by simpa using H0.out⟩
              rw [List.getElem?_drop, List.getElem?_take, show N + (k - N) = k by omega, if_pos hkl]
              exact HZ.out
            rw [HNW.out] at e1
            cases e1
        · have hk1 : ¬ (k : Int) < (rr : Int) := by omega
          obtain rfl : k = rr := by omega
          have hne : w.heap.size < (w.alloc (.cells #[.bool false, .int .i64 0, .int .i64 0] 30)).heap.size := by simp
          obtain ⟨s0, s1, s2, s3, s4, s5⟩ := (F0.out.later KK.out).three
          obtain ⟨u0, u1, u2, -⟩ := ((F0.out.later KK.out).set3 (.bool false) (.int .i64 0) (.int .i64 0)).three
          have bb := below_set3 (g := w.heap.size) (B0.out.trans (KK.out.mono B0.out.size)) (Nat.le_refl _) (.bool false) (.int .i64 0) (.int .i64 0)
          have HX := hide_ (oxfar3 HOW.out hne)
          go_wp2
          exact bodyPost_ret (v := .tuple #[.slice ua pre.length uc, .int .i64 (k : Int), .agg #[.bool false, .int .i64 0, .int .i64 0]]) (by simp [results, Try.results21, go_sem, u0, u1, u2]) rfl ⟨⟨_, rfl, OxAt.ofOwn (HX.out _ _ _)⟩, bb⟩
    | @cons _ f m a b c d nn RR hd hr h0 hle2 he g1 g2 g3 g4 hrest =>
      have HPRE := hide_ hpre
      clear hpre
      rw [hd] at qd
      unfold ov fv at qd
      have qd := hide_ qd
      have hla : a0 + nn ≤ N := by omega
      have hlt' : (a0 : Int) < (N : Int) := by omega
      have hadd : IntKind.i64.wrap ((a0 : Int) + (nn : Int)) = ((a0 + nn : Nat) : Int) := by rw [IntKind.wrap_i64]; omega
      have hdrop : mm.drop nn = (l.take N).drop (a0 + nn) := by rw [← HMM.out, List.drop_drop]
      clear hd
      go_wp2_with (first | (go_at_call 54; refine (qd.out).mono ?_; rintro e w3 ⟨rfl, b3⟩; have j3 : Below wr.heap.size wr ((w3.alloc (.cells #[.int .i64 f, .bool m, .int .u64 (a : Int), .int .u64 (b : Int), .int .u64 (c : Int), .int .u64 (d : Int)] 51)).alloc (.cells #[.bool false, .int .i64 0, .int .i64 0] 30)) := b3.trans ((below2 w3 _ _).mono b3.size); have K3 := KB.out.trans (j3.mono KB.out.size); obtain ⟨o0, o1, o2, o3, o4, o5, -⟩ := ((AB.at0 w3 51 [.int .i64 f, .bool m, .int .u64 (a : Int), .int .u64 (b : Int), .int .u64 (c : Int), .int .u64 (d : Int)]).alloc (.cells #[.bool false, .int .i64 0, .int .i64 0] 30)).six; obtain ⟨f0, f1, f2, -⟩ := (AB.at1 w3 (.cells #[.int .i64 f, .bool m, .int .u64 (a : Int), .int .u64 (b : Int), .int .u64 (c : Int), .int .u64 (d : Int)] 51) 30 [.bool false, .int .i64 0, .int .i64 0]).three) | (at_builtin; refine wpList_append_new (.tmp 74) (.tmp 76) 22 rfl 51 i0 (.agg #[.int .i64 0, .bool false, .int .u64 0, .int .u64 0, .int .u64 0, .int .u64 0]) 6 48 Try.underlying22 HI.out.1 HI.out.2.1 HI.out.2.2.1 HI.out.2.2.2 rfl (by decide) (w.alloc (.cells #[.bool false, .int .i64 0, .int .i64 0] 30)).heap.size (.slice ua pre.length uc) pre.length (ods pre) (by simp [Act.eval, Act.put]) ((w3.alloc (.cells #[.int .i64 f, .bool m, .int .u64 (a : Int), .int .u64 (b : Int), .int .u64 (c : Int), .int .u64 (d : Int)] 51)).alloc (.cells #[.bool false, .int .i64 0, .int .i64 0] 30)) (own6_later HOw.out j3) [.int .i64 f, .bool m, .int .u64 (a : Int), .int .u64 (b : Int), .int .u64 (c : Int), .int .u64 (d : Int)] _ rfl 1 (by simp) (by simp [Value.oneCell']) (by simp [Act.eval, Act.put]) (by simp [Region.wanted]) (by unfold maxLen; omega) (by omega) K3.size ?_; intro v4 w4 own4 b4))
      have own4 : w4.ownsRow (w.alloc (.cells #[.bool false, .int .i64 0, .int .i64 0] 30)).heap.size 51 6 v4 (pre ++ [(f, m, a, b, c, d)]).length (ods (pre ++ [(f, m, a, b, c, d)])) := by
        rw [ods_snoc, List.length_append]
        exact own4
      obtain ⟨ua4, uc4, e4⟩ : ∃ ua4 uc4, v4 = .slice ua4 (pre ++ [(f, m, a, b, c, d)]).length uc4 := by
        rcases own4.2 with ⟨_, h0⟩ | ⟨g, cp, cur, rfl, _⟩
        · simp at h0
        · exact ⟨_, _, rfl⟩
      subst e4
      have own4 := hide_ own4
      go_wp2
      go_roundw
      case rel => exact ⟨ua4, uc4, pre ++ [(f, m, a, b, c, d)], a0 + nn, RR, rfl, rfl, by omega, hla, by simp; omega, own4, hide_ ⟨by rw [← hdrop]; exact hrest, by rw [← HPRE.out]; simp⟩, hide_ (K3.trans b4)⟩
      case measure => simp [intOf]; omega
end

section
open Go Go.RowKit
set_option linter.unusedVariables false
set_option linter.unusedSimpArgs false

def RBad (l : List Int) (c : Int) : Prop := ∀ v w, Bytes w v l → Calls Try.prog 21 #[v] w fun e w' => e = .returned (.tuple #[.slice none 0 0, .int .i64 0, .agg #[.bool true, .int .i64 4, .int .i64 c]]) ∧ Below w.heap.size w w'
def ROk (l : List Int) (L : List O6) (N : Nat) : Prop := ∀ v w, Bytes w v l → Calls Try.prog 21 #[v] w fun e w' => (∃ r, e = .returned (.tuple #[r, .int .i64 ((r8 N : Nat) : Int), .agg #[.bool false, .int .i64 0, .int .i64 0]]) ∧ OxAt w' r L) ∧ Below w.heap.size w w'
theorem getD_at {l : List Int} {i : Nat} (h : i < l.length) : l[i]? = some (l.getD i 0) := by
  rw [List.getD_eq_getElem?_getD, List.getElem?_eq_getElem h]; rfl
theorem rd_cells {w : World} {v : Value} {l : List Int} (hB : Bytes w v l) (h : 4 ≤ l.length) : ∃ bb off cap, v = .slice (some ⟨bb, off, none⟩) l.length cap ∧ w.cell? ⟨bb, off, none⟩ = some (.int .u8 (l.getD 0 0)) ∧ w.cell? ⟨bb, off + 1, none⟩ = some (.int .u8 (l.getD 1 0)) ∧ w.cell? ⟨bb, off + 2, none⟩ = some (.int .u8 (l.getD 2 0)) ∧ w.cell? ⟨bb, off + 3, none⟩ = some (.int .u8 (l.getD 3 0)) := by
  have hB' := hB
  obtain ⟨ao, cap, rfl, -⟩ := hB
  obtain ⟨-, -, -, hat⟩ := Bytes.at hB'
  obtain ⟨b0, o0, e0, c0⟩ := hat 0 _ (getD_at (by omega))
  obtain ⟨b1, o1, e1, c1⟩ := hat 1 _ (getD_at (by omega))
  obtain ⟨b2, o2, e2, c2⟩ := hat 2 _ (getD_at (by omega))
  obtain ⟨b3, o3, e3, c3⟩ := hat 3 _ (getD_at (by omega))
  subst e0
  cases e1
  cases e2
  cases e3
  exact ⟨b0, o0, cap, rfl, c0, c1, c2, c3⟩
theorem mdec_both {l : List Int} (hl : isB l) : (∃ c, MBad l c ∧ RBad l c) ∨ ∃ L N, MOk l L N ∧ ROk l L N := by
  have hr := be2_range hl 2
  obtain ⟨N, hN⟩ : ∃ N : Nat, be2 l 2 = (N : Int) := ⟨(be2 l 2).toNat, by omega⟩
  have fm : ∀ v w, Bytes w v l → ∃ ao cap, v = .slice ao l.length cap := fun v w ⟨ao, cap, e, _⟩ => ⟨ao, cap, e⟩
  by_cases a1 : l.length < 4
  · refine .inl ⟨1, fun v w hB => ?_, fun v w hB => ?_⟩
    · obtain ⟨ao, cap, rfl⟩ := fm v w hB
      exact md_head _ 1 w (fun W hW => mh_a ao _ cap l N W (hB.later hW) hN a1)
    · obtain ⟨ao, cap, rfl⟩ := fm v w hB
      exact rd_a ao _ cap w a1
  have i0 := isB_getD hl 0
  have i1 := isB_getD hl 1
  have i2 := isB_getD hl 2
  have i3 := isB_getD hl 3
  have hN' : l.getD 2 0 * 256 + l.getD 3 0 = (N : Int) := by rw [← hN]; unfold be2; rw [if_pos (by omega)]
  have hb0 : be2 l 0 = l.getD 0 0 * 256 + l.getD 1 0 := by unfold be2; rw [if_pos (by omega)]
  have h4 : ¬ (l.length : Int) < 4 := by omega
  by_cases a2 : N < 4
  · refine .inl ⟨1, fun v w hB => ?_, fun v w hB => ?_⟩
    · obtain ⟨ao, cap, rfl⟩ := fm v w hB
      exact md_head _ 1 w (fun W hW => mh_b ao _ cap l N W (hB.later hW) hN a1 a2)
    · obtain ⟨bb, off, cap, rfl, c0, c1, c2, c3⟩ := rd_cells hB (by omega)
      exact rd_b1 bb off _ cap l _ _ _ _ N w hB c0 c1 c2 c3 i2 i3 hN' h4 (by omega)
  have h5 : ¬ (N : Int) < 4 := by omega
  by_cases a3 : l.length < r8 N
  · refine .inl ⟨1, fun v w hB => ?_, fun v w hB => ?_⟩
    · obtain ⟨ao, cap, rfl⟩ := fm v w hB
      exact md_head _ 1 w (fun W hW => mh_c ao _ cap l N W (hB.later hW) hN a1 a2 a3)
    · obtain ⟨bb, off, cap, rfl, c0, c1, c2, c3⟩ := rd_cells hB (by omega)
      exact rd_b2 bb off _ cap l _ _ _ _ N w hB c0 c1 c2 c3 i2 i3 hN' h4 h5 (by omega)
  have h6 : ¬ (l.length : Int) < ((r8 N : Nat) : Int) := by omega
  by_cases a4 : be2 l 0 = 1
  · have z0 : l.getD 0 0 = 0 := by omega
    have z1 : l.getD 1 0 = 1 := by omega
    by_cases a5 : 1004 < N
    · refine .inl ⟨1, fun v w hB => ?_, fun v w hB => ?_⟩
      · obtain ⟨ao, cap, rfl⟩ := fm v w hB
        exact md_head _ 1 w (fun W hW => mh_e ao _ cap l N W (hB.later hW) hN a1 a2 (by omega) a4 a5)
      · obtain ⟨bb, off, cap, rfl, c0, c1, c2, c3⟩ := rd_cells hB (by omega)
        exact rd_d bb off _ cap l _ _ _ _ N w hB c0 c1 c2 c3 i2 i3 hN' h4 h5 h6 z0 z1 (by omega)
    · have h9 : ¬ (1004 : Int) < (N : Int) := by omega
      have hg := r8_ge N
      have hlt : ((l.take N).drop 4).length ≤ 100000 := by simp; omega
      have qL : ∀ ao cap w, Bytes w (.slice ao l.length cap) l → ∀ W, Below w.heap.size w W → _ := fun ao cap w hB W hW => mh_f ao _ cap l N W (Bytes.later hB hW) hN a1 a2 (by omega) a4 a5
      rcases parts_all _ ((l.take N).drop 4) (Nat.le_refl _) (fun z hz => hl z (List.mem_of_mem_take (List.mem_of_mem_drop hz))) with ⟨L, hp⟩ | ⟨k, hp⟩
      · cases hc : mchk [] L with
        | none =>
          cases hz : nzB ((l.take (r8 N)).drop N)
          · refine .inr ⟨L, N, M_ok hN a4 (by omega) (by omega) (by omega) hp hc hz, fun v w hB => ?_⟩
            obtain ⟨bb, off, cap, rfl, c0, c1, c2, c3⟩ := rd_cells hB (by omega)
            exact rd_ok bb off _ cap l _ _ _ _ N w hB c0 c1 c2 c3 i2 i3 hN' h4 h5 h6 z0 z1 h9 L hp (by rw [hc]; rfl) hz
          · refine .inl ⟨1, fun v w hB => ?_, fun v w hB => ?_⟩
            · obtain ⟨ao, cap, rfl⟩ := fm v w hB
              obtain ⟨x1, s1, b1⟩ := bytes_mid hB 4 N (by omega) (by omega)
              obtain ⟨x2, s2, b2⟩ := bytes_mid hB N (r8 N) hg (by omega)
              refine md_nz _ _ N L _ w (qL ao cap w hB) s1 (fun W hW => rp_ok _ _ L W (b1.later hW) hlt hp) (by rw [hc]; rfl) (by omega) s2 (fun W hW => ?_)
              have := cont_any _ _ W (b2.later hW)
              rw [hz] at this
              exact this
            · obtain ⟨bb, off, cap, rfl, c0, c1, c2, c3⟩ := rd_cells hB (by omega)
              exact rd_nz bb off _ cap l _ _ _ _ N w hB c0 c1 c2 c3 i2 i3 hN' h4 h5 h6 z0 z1 h9 L hp (by rw [hc]; rfl) hz
        | some c =>
          refine .inl ⟨c, fun v w hB => ?_, fun v w hB => ?_⟩
          · obtain ⟨ao, cap, rfl⟩ := fm v w hB
            obtain ⟨x1, s1, b1⟩ := bytes_mid hB 4 N (by omega) (by omega)
            exact md_chk _ _ N L c w (qL ao cap w hB) s1 (fun W hW => rp_ok _ _ L W (b1.later hW) hlt hp) (by rw [hc]; rfl)
          · obtain ⟨bb, off, cap, rfl, c0, c1, c2, c3⟩ := rd_cells hB (by omega)
            exact rd_chk bb off _ cap l _ _ _ _ N w hB c0 c1 c2 c3 i2 i3 hN' h4 h5 h6 z0 z1 h9 L hp c (by rw [hc]; rfl)
      · refine .inl ⟨k, fun v w hB => ?_, fun v w hB => ?_⟩
        · obtain ⟨ao, cap, rfl⟩ := fm v w hB
          obtain ⟨x1, s1, b1⟩ := bytes_mid hB 4 N (by omega) (by omega)
          exact md_parts _ _ N k w (qL ao cap w hB) s1 (fun W hW => rp_bad _ _ k W (b1.later hW) hlt hp)
        · obtain ⟨bb, off, cap, rfl, c0, c1, c2, c3⟩ := rd_cells hB (by omega)
          exact rd_pbad bb off _ cap l _ _ _ _ N w hB c0 c1 c2 c3 i2 i3 hN' h4 h5 h6 z0 z1 h9 k hp
  · refine .inl ⟨0, fun v w hB => ?_, fun v w hB => ?_⟩
    · obtain ⟨ao, cap, rfl⟩ := fm v w hB
      exact md_head _ 0 w (fun W hW => mh_d ao _ cap l N W (hB.later hW) hN a1 a2 (by omega) a4)
    · obtain ⟨bb, off, cap, rfl, c0, c1, c2, c3⟩ := rd_cells hB (by omega)
      by_cases z0 : l.getD 0 0 = 0
      · exact rd_c2 bb off _ cap l _ _ _ _ N w hB c0 c1 c2 c3 i2 i3 hN' h4 h5 h6 z0 (bne_iff_ne.2 (by omega))
      · exact rd_c1 bb off _ cap l _ _ _ _ N w hB c0 c1 c2 c3 i2 i3 hN' h4 h5 h6 (bne_iff_ne.2 (by omega))

set_option maxRecDepth 100000 in
set_option maxHeartbeats 4000000 in
theorem mdd_gen (ao : Option Addr) (cap : Nat) (l : List Int) (L : List O6) (n : Int) (fx : Bool) (ft fc : Int) (w : World) (g1 : ¬ (2000 : Int) < (l.length : Int)) (q1 : ∀ W, Below w.heap.size w W → Calls Try.prog 20 #[.slice ao l.length cap] W fun e w' => (∃ r, e = .returned (.tuple #[r, .int .i64 n, .agg #[.bool fx, .int .i64 ft, .int .i64 fc]]) ∧ OxAt w' r L) ∧ Below W.heap.size W w') (q2 : ∀ W, Below w.heap.size w W → Calls Try.prog 21 #[.slice ao l.length cap] W fun e w' => (∃ r, e = .returned (.tuple #[r, .int .i64 n, .agg #[.bool fx, .int .i64 ft, .int .i64 fc]]) ∧ OxAt w' r L) ∧ Below W.heap.size W w') :
    Calls Try.prog 5 #[.slice ao l.length cap] w fun e w' => e = .returned (.bool true) ∧ Below w.heap.size w w' := by
  have aw := hide_ (fun w => awake11_any w)
  have q1 := hide_ q1
  have q2 := hide_ q2
  have qs : Hid (∀ r u W, OxAt W r L → OxAt W u L → Calls Try.prog 15 #[r, u] W fun e w' => e = .returned (.bool true) ∧ Below W.heap.size W w') := hide_ (fun r u W h1 h2 => by
    have := rsame_any r u L L W h1 h2
    rw [decide_eq_true rfl] at this
    exact this)
  have k0 : Below w.heap.size w w := Below.refl _ _
  go_enter Try.func5, Try.ntmps5
  go_wp2_with (first | (go_at_call 20; refine (q1.out _ k0).mono ?_; rintro e w1 ⟨⟨r1, rfl, h1⟩, b1⟩; have k1 : Below w.heap.size w (w1.alloc (.cells #[.bool fx, .int .i64 ft, .int .i64 fc] 30)) := b1.trans ((below1 w1 _).mono b1.size); have h1 := hide_ (h1.later (below1 w1 (.cells #[.bool fx, .int .i64 ft, .int .i64 fc] 30))); have G1 := hide_ (AB.at0 w1 30 [.bool fx, .int .i64 ft, .int .i64 fc])) | (go_at_call 21; refine (q2.out _ k1).mono ?_; rintro e w2 ⟨⟨r2, rfl, h2⟩, b2⟩; have j2 : Below (w1.alloc (.cells #[.bool fx, .int .i64 ft, .int .i64 fc] 30)).heap.size (w1.alloc (.cells #[.bool fx, .int .i64 ft, .int .i64 fc] 30)) (w2.alloc (.cells #[.bool fx, .int .i64 ft, .int .i64 fc] 30)) := b2.trans ((below1 w2 _).mono b2.size); have k2 := k1.trans (j2.mono k1.size); have h1 := hide_ (h1.out.later j2); have h2 := hide_ (h2.later (below1 w2 (.cells #[.bool fx, .int .i64 ft, .int .i64 fc] 30))); have G1 := hide_ (G1.out.later j2); have G2 := hide_ (AB.at0 w2 30 [.bool fx, .int .i64 ft, .int .i64 fc])) | (go_at_call 15; refine (qs.out _ _ _ h1.out h2.out).mono ?_; rintro e w3 ⟨rfl, b3⟩; have k3 := k2.trans (b3.mono k2.size); obtain ⟨x0, x1, x2, -⟩ := (G1.out.later b3).three; obtain ⟨y0, y1, y2, -⟩ := (G2.out.later b3).three) | (go_at_call 8; refine (aw.out _).mono ?_; rintro e w8 ⟨rfl, b8⟩))
  go_ret
  exact ⟨by first | rfl | simp, k3.trans (b8.mono k3.size)⟩

set_option maxRecDepth 100000 in
set_option maxHeartbeats 4000000 in
theorem matchDecodes_walk (v : Value) (l : List Int) (w : World) (hB : Bytes w v l) :
    Calls Try.prog 5 #[v] w fun e w' => e = .returned (.bool true) ∧ Below w.heap.size w w' := by
  have hiB := hB.isB_
  obtain ⟨ao, cap, rfl, h1⟩ := hB
  have hB : Bytes w (.slice ao l.length cap) l := ⟨ao, cap, rfl, h1⟩
  by_cases g1 : (2000 : Int) < (l.length : Int)
  · clear hB h1 hiB
    have aw := hide_ (fun w => awake11_any w)
    go_enter Try.func5, Try.ntmps5
    go_wp2_with (go_at_call 8; refine (aw.out _).mono ?_; rintro e w3 ⟨rfl, b3⟩)
    go_ret
    exact ⟨rfl, b3⟩
  · rcases mdec_both hiB with ⟨c, hm, hr⟩ | ⟨L, N, hm, hr⟩
    · have nn : ∀ {w' : World} {e : Ending} {c : Int}, e = .returned (.tuple #[.slice none 0 0, .int .i64 0, .agg #[.bool true, .int .i64 4, .int .i64 c]]) → ∃ r, e = .returned (.tuple #[r, .int .i64 0, .agg #[.bool true, .int .i64 4, .int .i64 c]]) ∧ OxAt w' r [] := fun h => ⟨_, h, OxAt.nil _⟩
      exact mdd_gen ao cap l [] 0 true 4 c w g1 (fun W hW => (hm _ W (hB.later hW)).mono fun e w' h => ⟨nn h.1, h.2⟩) (fun W hW => (hr _ W (hB.later hW)).mono fun e w' h => ⟨nn h.1, h.2⟩)
    · exact mdd_gen ao cap l L _ false 0 0 w g1 (fun W hW => hm _ W (hB.later hW)) (fun W hW => hr _ W (hB.later hW))
end

end Go.Proofs.Ytcffebkebldjcaa
