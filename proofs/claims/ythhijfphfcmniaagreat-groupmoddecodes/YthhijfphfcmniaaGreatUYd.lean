import Derived.Test.YthhijfphfcmniaaGreatUAd
import Derived.Test.YthhijfphfcmniaaGreatKVd
import Derived.Test.YthhijfphfcmniaaGreatKyd
import Derived.Test.YthhijfphfcmniaaGreatKRqd
import Derived.Deep.RegionHeld3
import Derived.Deep.RegionWith
import Derived.Deep.MidRow
import Derived.Deep.Cut
namespace Go.Proofs.YthhijfphfcmniaaGreat
open Go Go.RowKit
set_option linter.unusedVariables false
set_option linter.unusedSimpArgs false

set_option maxRecDepth 100000 in
set_option maxHeartbeats 8000000 in
theorem rgbad_any (c : Int) (w : World) :
    Calls Tryz.prog 70 #[.int .i64 c] w fun e w' => e = .returned (.agg #[.bool true, .int .i64 6, .int .i64 c]) ∧ Below w.heap.size w w' := by
  have B0 := hide_ (below1 w (.cells #[.bool true, .int .i64 6, .int .i64 c] 44))
  go_enter Tryz.func70, Tryz.ntmps70
  go_wp2
  exact bodyPost_ret (v := .agg #[.bool true, .int .i64 6, .int .i64 c]) (by simp [results, Tryz.results70, go_sem]) rfl ⟨rfl, B0.out⟩

theorem four_getD {l : List Int} {ao : Option Addr} {cap : Nat} {w : World} (hB : Bytes w (.slice ao l.length cap) l) (h : 4 ≤ l.length) : ∃ bq off, ao = some ⟨bq, off, none⟩ ∧ isB l ∧ ∀ W, Below w.heap.size w W → W.cell? ⟨bq, off, none⟩ = some (.int .u8 (l.getD 0 0)) ∧ W.cell? ⟨bq, off + 1, none⟩ = some (.int .u8 (l.getD 1 0)) ∧ W.cell? ⟨bq, off + 2, none⟩ = some (.int .u8 (l.getD 2 0)) ∧ W.cell? ⟨bq, off + 3, none⟩ = some (.int .u8 (l.getD 3 0)) := by
  obtain ⟨-, -, hib, hat⟩ := Bytes.at hB
  obtain ⟨b, off, rfl, c0⟩ := hat 0 _ (getD_some (by omega))
  obtain ⟨_, _, e1, c1⟩ := hat 1 _ (getD_some (by omega))
  cases e1
  obtain ⟨_, _, e1, c2⟩ := hat 2 _ (getD_some (by omega))
  cases e1
  obtain ⟨_, _, e1, c3⟩ := hat 3 _ (getD_some (by omega))
  cases e1
  exact ⟨b, off, rfl, hib, fun W hW => ⟨cell_later hW c0, cell_later hW c1, cell_later hW c2, cell_later hW c3⟩⟩
set_option maxRecDepth 100000 in
set_option maxHeartbeats 8000000 in
theorem rgd_short (ao : Option Addr) (cap : Nat) (l : List Int) (w : World) (hB : Bytes w (.slice ao l.length cap) l) (h : l.length < 8) :
    Calls Tryz.prog 32 #[.slice ao l.length cap] w fun e w' => e = .returned (.tuple #[.agg #[.int .i64 0, .int .i64 0, .int .i64 0, .slice none 0 0], .agg #[.bool true, .int .i64 1, .int .i64 6]]) ∧ Below w.heap.size w w' := by
  have R0 := hide_ ((AB.at0 w 50 [.int .i64 0, .int .i64 0, .int .i64 0, .slice none 0 0]).alloc (.cells #[.bool false, .int .i64 0, .int .i64 0] 44))
  have F0 := hide_ (AB.at1 w (.cells #[.int .i64 0, .int .i64 0, .int .i64 0, .slice none 0 0] 50) 44 [.bool false, .int .i64 0, .int .i64 0])
  have B0 := hide_ (below2 w (.cells #[.int .i64 0, .int .i64 0, .int .i64 0, .slice none 0 0] 50) (.cells #[.bool false, .int .i64 0, .int .i64 0] 44))
  have hm : l.length ≤ 9223372036854775807 := by obtain ⟨_, _, h1⟩ := Bytes.at hB; unfold maxLen at *; omega
  have h' : (l.length : Int) < 8 := by omega
  clear hB h
  go_enter Tryz.func32, Tryz.ntmps32
  go_upto_region 2 with fail
  generalize ((w.alloc (.cells #[.int .i64 0, .int .i64 0, .int .i64 0, .slice none 0 0] 50)).alloc (.cells #[.bool false, .int .i64 0, .int .i64 0] 44)) = X at *
  obtain ⟨r0, r1, r2, r3, r4, r5, r6, r7⟩ := R0.out.k4; obtain ⟨s0, s1, s2, s3, s4, s5⟩ := (F0.out.fark4 (f := w.heap.size) (by omega) (.int .i64 0) (.int .i64 0) (.int .i64 0) (.slice none 0 0)).three; obtain ⟨u0, u1, u2, u3, -⟩ := ((R0.out.setk4 (.int .i64 0) (.int .i64 0) (.int .i64 0) (.slice none 0 0)).farx3 (f := (w.heap.size + 1)) (by omega) (.bool true) (.int .i64 1) (.int .i64 6)).k4; obtain ⟨u4, u5, u6, -⟩ := ((F0.out.fark4 (f := w.heap.size) (by omega) (.int .i64 0) (.int .i64 0) (.int .i64 0) (.slice none 0 0)).set3 (.bool true) (.int .i64 1) (.int .i64 6)).three; have bb := below_set3 (g := (w.heap.size + 1)) (below_setk4 (g := w.heap.size) B0.out (Nat.le_refl _) (.int .i64 0) (.int .i64 0) (.int .i64 0) (.slice none 0 0)) (by omega) (.bool true) (.int .i64 1) (.int .i64 6)
  go_wp2
  exact bodyPost_ret (v := .tuple #[.agg #[.int .i64 0, .int .i64 0, .int .i64 0, .slice none 0 0], .agg #[.bool true, .int .i64 1, .int .i64 6]]) (by simp [results, Tryz.results32, go_sem, u0, u1, u2, u3, u4, u5, u6]) rfl ⟨rfl, bb⟩

set_option maxRecDepth 100000 in
set_option maxHeartbeats 8000000 in
theorem rgd_nz (ao : Option Addr) (cap : Nat) (l : List Int) (w : World) (hB : Bytes w (.slice ao l.length cap) l) (h : 8 ≤ l.length) (hz : ¬ l.getD 3 0 = 0) :
    Calls Tryz.prog 32 #[.slice ao l.length cap] w fun e w' => e = .returned (.tuple #[.agg #[.int .i64 0, .int .i64 0, .int .i64 0, .slice none 0 0], .agg #[.bool true, .int .i64 1, .int .i64 6]]) ∧ Below w.heap.size w w' := by
  have R0 := hide_ ((AB.at0 w 50 [.int .i64 0, .int .i64 0, .int .i64 0, .slice none 0 0]).alloc (.cells #[.bool false, .int .i64 0, .int .i64 0] 44))
  have F0 := hide_ (AB.at1 w (.cells #[.int .i64 0, .int .i64 0, .int .i64 0, .slice none 0 0] 50) 44 [.bool false, .int .i64 0, .int .i64 0])
  have B0 := hide_ (below2 w (.cells #[.int .i64 0, .int .i64 0, .int .i64 0, .slice none 0 0] 50) (.cells #[.bool false, .int .i64 0, .int .i64 0] 44))
  have hm : l.length ≤ 9223372036854775807 := by obtain ⟨_, _, h1⟩ := Bytes.at hB; unfold maxLen at *; omega
  have h' : ¬ (l.length : Int) < 8 := by omega
  obtain ⟨bq, off, rfl, hib, hc⟩ := four_getD hB (by omega)
  have i0 : (0 : Int) < (l.length : Int) := by omega
  have i1 : (1 : Int) < (l.length : Int) := by omega
  have i2 : (2 : Int) < (l.length : Int) := by omega
  have i3 : (3 : Int) < (l.length : Int) := by omega
  obtain ⟨-, -, -, a3⟩ := hc _ B0.out
  clear hB h hc
  generalize l.getD 3 0 = z3 at *
  go_enter Tryz.func32, Tryz.ntmps32
  go_upto_region 2 with fail
  generalize ((w.alloc (.cells #[.int .i64 0, .int .i64 0, .int .i64 0, .slice none 0 0] 50)).alloc (.cells #[.bool false, .int .i64 0, .int .i64 0] 44)) = X at *
  obtain ⟨r0, r1, r2, r3, r4, r5, r6, r7⟩ := R0.out.k4; obtain ⟨s0, s1, s2, s3, s4, s5⟩ := (F0.out.fark4 (f := w.heap.size) (by omega) (.int .i64 0) (.int .i64 0) (.int .i64 0) (.slice none 0 0)).three; obtain ⟨u0, u1, u2, u3, -⟩ := ((R0.out.setk4 (.int .i64 0) (.int .i64 0) (.int .i64 0) (.slice none 0 0)).farx3 (f := (w.heap.size + 1)) (by omega) (.bool true) (.int .i64 1) (.int .i64 6)).k4; obtain ⟨u4, u5, u6, -⟩ := ((F0.out.fark4 (f := w.heap.size) (by omega) (.int .i64 0) (.int .i64 0) (.int .i64 0) (.slice none 0 0)).set3 (.bool true) (.int .i64 1) (.int .i64 6)).three; have bb := below_set3 (g := (w.heap.size + 1)) (below_setk4 (g := w.heap.size) B0.out (Nat.le_refl _) (.int .i64 0) (.int .i64 0) (.int .i64 0) (.slice none 0 0)) (by omega) (.bool true) (.int .i64 1) (.int .i64 6)
  go_wp2
  exact bodyPost_ret (v := .tuple #[.agg #[.int .i64 0, .int .i64 0, .int .i64 0, .slice none 0 0], .agg #[.bool true, .int .i64 1, .int .i64 6]]) (by simp [results, Tryz.results32, go_sem, u0, u1, u2, u3, u4, u5, u6]) rfl ⟨rfl, bb⟩

end Go.Proofs.YthhijfphfcmniaaGreat

namespace Go.Proofs.YthhijfphfcmniaaGreat
open Go Go.RowKit
set_option linter.unusedVariables false
set_option linter.unusedSimpArgs false

set_option maxRecDepth 100000 in
set_option maxHeartbeats 8000000 in
theorem rgd_c (ao : Option Addr) (cap : Nat) (l : List Int) (w : World) (hB : Bytes w (.slice ao l.length cap) l) (h : 8 ≤ l.length) (hz : l.getD 3 0 = 0) (hc2 : 2 < be2 l 0) :
    Calls Tryz.prog 32 #[.slice ao l.length cap] w fun e w' => e = .returned (.tuple #[.agg #[.int .i64 0, .int .i64 0, .int .i64 0, .slice none 0 0], .agg #[.bool true, .int .i64 6, .int .i64 11]]) ∧ Below w.heap.size w w' := by
  have R0 := hide_ ((AB.at0 w 50 [.int .i64 0, .int .i64 0, .int .i64 0, .slice none 0 0]).alloc (.cells #[.bool false, .int .i64 0, .int .i64 0] 44))
  have F0 := hide_ (AB.at1 w (.cells #[.int .i64 0, .int .i64 0, .int .i64 0, .slice none 0 0] 50) 44 [.bool false, .int .i64 0, .int .i64 0])
  have B0 := hide_ (below2 w (.cells #[.int .i64 0, .int .i64 0, .int .i64 0, .slice none 0 0] 50) (.cells #[.bool false, .int .i64 0, .int .i64 0] 44))
  have hm : l.length ≤ 9223372036854775807 := by obtain ⟨_, _, h1⟩ := Bytes.at hB; unfold maxLen at *; omega
  have h' : ¬ (l.length : Int) < 8 := by omega
  obtain ⟨bq, off, rfl, hib, hc⟩ := four_getD hB (by omega)
  have i0 : (0 : Int) < (l.length : Int) := by omega
  have i1 : (1 : Int) < (l.length : Int) := by omega
  have i2 : (2 : Int) < (l.length : Int) := by omega
  have i3 : (3 : Int) < (l.length : Int) := by omega
  have j0 : 0 < l.length := by omega
  have j1 : 1 < l.length := by omega
  have j2 : 2 < l.length := by omega
  have j3 : 3 < l.length := by omega
  have hbe : be2 l 0 = l.getD 0 0 * 256 + l.getD 1 0 := if_pos (by omega)
  obtain ⟨n0, m0⟩ := isB_getD hib 0
  obtain ⟨n1, m1⟩ := isB_getD hib 1
  obtain ⟨n2, m2⟩ := isB_getD hib 2
  obtain ⟨-, -, -, a3⟩ := hc _ B0.out
  rw [hz] at a3
  have HC := hide_ (fun W hW => (hc W hW).1)
  have HC1 := hide_ (fun W hW => (hc W hW).2.1)
  have HC2 := hide_ (fun W hW => (hc W hW).2.2.1)
  have q4 : Hid (∀ W, Below w.heap.size w W → Calls Tryz.prog 55 #[.slice (some ⟨bq, off, none⟩) l.length cap, .int .i64 4, .int .i64 4] W fun e w' => ∃ er, e = .returned (.tuple #[.int .i64 (be4 l 4), .int .i64 er]) ∧ W = w') := hide_ (fun W hW => rnget4 _ l 4 W (hB.later hW) (by omega))
  clear hc hib
  rw [hbe] at hc2
  clear hB h hz hbe
  generalize be4 l 4 = y2 at *
  generalize l.getD 0 0 = z0 at *
  generalize l.getD 1 0 = z1 at *
  generalize l.getD 2 0 = z2 at *
  have hw1 : IntKind.i64.wrap z0 = z0 := by rw [IntKind.wrap_i64]; omega
  have hw2 : IntKind.i64.wrap z1 = z1 := by rw [IntKind.wrap_i64]; omega
  have hw3 : IntKind.i64.wrap z2 = z2 := by rw [IntKind.wrap_i64]; omega
  have hw4 : IntKind.i64.wrap (z0 * 256) = z0 * 256 := by rw [IntKind.wrap_i64]; omega
  have hw5 : IntKind.i64.wrap (z0 * 256 + z1) = z0 * 256 + z1 := by rw [IntKind.wrap_i64]; omega
  go_enter Tryz.func32, Tryz.ntmps32
  go_upto_region 3 with fail
  refine wp_region_held_drew (S := (fun w' => Below w.heap.size w w')) (by kernel_rfl) (B0.out.drew) (fun hHeld => ?_)
  have hD : ((w.alloc (.cells #[.int .i64 0, .int .i64 0, .int .i64 0, .slice none 0 0] 50)).alloc (.cells #[.bool false, .int .i64 0, .int .i64 0] 44)).drew.heap.size = w.heap.size + 1 + 1 := by show (World.alloc _ _).heap.size = _; simp
  have RD : AB ((w.alloc (.cells #[.int .i64 0, .int .i64 0, .int .i64 0, .slice none 0 0] 50)).alloc (.cells #[.bool false, .int .i64 0, .int .i64 0] 44)).drew w.heap.size 50 [.int .i64 0, .int .i64 0, .int .i64 0, .slice none 0 0] := R0.out
  have FD : AB ((w.alloc (.cells #[.int .i64 0, .int .i64 0, .int .i64 0, .slice none 0 0] 50)).alloc (.cells #[.bool false, .int .i64 0, .int .i64 0] 44)).drew (w.heap.size + 1) 44 [.bool false, .int .i64 0, .int .i64 0] := F0.out
  generalize ((w.alloc (.cells #[.int .i64 0, .int .i64 0, .int .i64 0, .slice none 0 0] 50)).alloc (.cells #[.bool false, .int .i64 0, .int .i64 0] 44)).drew = D at *
  have hgD : w.heap.size ≤ D.heap.size := by omega
  have hKD := hide_ hHeld
  obtain ⟨r0, r1, r2, r3, r4, r5, r6, r7⟩ := (AB.at0 D 50 [.int .i64 0, .int .i64 0, .int .i64 0, .slice none 0 0]).k4
  refine takeR (i := 0) (v := ?_) rfl (by kernel_rfl) (by kernel_rfl) (by kernel_rfl) (some 18) rfl (Or.inl ⟨by rfl, ?_⟩) (fun _ _ _ h => h) (by assumption) ?_
  rotate_left
  · intro w hSw; (try dsimp only at hSw); go_simp; (try with_reducible rfl)
  simp only [Act.put, List.setIfInBounds_toArray, List.set_cons_zero, List.set_cons_succ]
  refine takeR (i := 1) (v := ?_) rfl (by kernel_rfl) (by kernel_rfl) (by kernel_rfl) (some 19) rfl (Or.inl ⟨by rfl, ?_⟩) (fun _ _ _ h => h) (by assumption) ?_
  rotate_left
  · intro w hSw; (try dsimp only at hSw); go_simp; (try with_reducible rfl)
  simp only [Act.put, List.setIfInBounds_toArray, List.set_cons_zero, List.set_cons_succ]
  refine takeR (i := 2) (v := ?_) rfl (by kernel_rfl) (by kernel_rfl) (by kernel_rfl) (some 20) rfl (Or.inl ⟨by rfl, ?_⟩) (fun _ _ _ h => h) (by assumption) ?_
  rotate_left
  · intro w hSw; (try dsimp only at hSw); have cc := HC.out _ hSw; go_simp; (try with_reducible rfl)
  simp only [Act.put, List.setIfInBounds_toArray, List.set_cons_zero, List.set_cons_succ]
  refine takeR (i := 3) (v := ?_) rfl (by kernel_rfl) (by kernel_rfl) (by kernel_rfl) (some 21) rfl (Or.inl ⟨by rfl, ?_⟩) (fun _ _ _ h => h) (by assumption) ?_
  rotate_left
  · intro w hSw; (try dsimp only at hSw); go_simp; (try with_reducible rfl)
  simp only [Act.put, List.setIfInBounds_toArray, List.set_cons_zero, List.set_cons_succ]
  refine takeR (i := 4) (v := ?_) rfl (by kernel_rfl) (by kernel_rfl) (by kernel_rfl) (some 22) rfl (Or.inl ⟨by rfl, ?_⟩) (fun _ _ _ h => h) (by assumption) ?_
  rotate_left
  · intro w hSw; (try dsimp only at hSw); go_simp; (try with_reducible rfl)
  simp only [Act.put, List.setIfInBounds_toArray, List.set_cons_zero, List.set_cons_succ]
  refine takeR (i := 5) (v := ?_) rfl (by kernel_rfl) (by kernel_rfl) (by kernel_rfl) (some 23) rfl (Or.inl ⟨by rfl, ?_⟩) (fun _ _ _ h => h) (by assumption) ?_
  rotate_left
  · intro w hSw; (try dsimp only at hSw); go_simp; (try with_reducible rfl)
  simp only [Act.put, List.setIfInBounds_toArray, List.set_cons_zero, List.set_cons_succ]
  refine takeR (i := 6) (v := ?_) rfl (by kernel_rfl) (by kernel_rfl) (by kernel_rfl) (some 24) rfl (Or.inl ⟨by rfl, ?_⟩) (fun _ _ _ h => h) (by assumption) ?_
  rotate_left
  · intro w hSw; (try dsimp only at hSw); go_simp; (try with_reducible rfl)
  simp only [Act.put, List.setIfInBounds_toArray, List.set_cons_zero, List.set_cons_succ]
  refine takeR (i := 7) (v := ?_) rfl (by kernel_rfl) (by kernel_rfl) (by kernel_rfl) (some 25) rfl (Or.inl ⟨by rfl, ?_⟩) (fun _ _ _ h => h) (by assumption) ?_
  rotate_left
  · intro w hSw; (try dsimp only at hSw); have cc := HC1.out _ hSw; go_simp; (try with_reducible rfl)
  simp only [Act.put, List.setIfInBounds_toArray, List.set_cons_zero, List.set_cons_succ]
  refine takeR (i := 8) (v := ?_) rfl (by kernel_rfl) (by kernel_rfl) (by kernel_rfl) (some 26) rfl (Or.inl ⟨by rfl, ?_⟩) (fun _ _ _ h => h) (by assumption) ?_
  rotate_left
  · intro w hSw; (try dsimp only at hSw); go_simp; (try with_reducible rfl)
  simp only [Act.put, List.setIfInBounds_toArray, List.set_cons_zero, List.set_cons_succ]
  refine takeR (i := 9) (v := ?_) rfl (by kernel_rfl) (by kernel_rfl) (by kernel_rfl) (some 27) rfl (Or.inl ⟨by rfl, ?_⟩) (fun _ _ _ h => h) (by assumption) ?_
  rotate_left
  · intro w hSw; (try dsimp only at hSw); go_simp; (try with_reducible rfl)
  simp only [Act.put, List.setIfInBounds_toArray, List.set_cons_zero, List.set_cons_succ]
  refine takeR (i := 10) (v := ?_) rfl (by kernel_rfl) (by kernel_rfl) (by kernel_rfl) (some 28) rfl (Or.inl ⟨by rfl, ?_⟩) (fun _ _ _ h => h) (by assumption) ?_
  rotate_left
  · intro w hSw; (try dsimp only at hSw); go_simp; (try with_reducible rfl)
  simp only [Act.put, List.setIfInBounds_toArray, List.set_cons_zero, List.set_cons_succ]
  refine takeR (i := 11) (v := ?_) rfl (by kernel_rfl) (by kernel_rfl) (by kernel_rfl) (some 29) rfl (Or.inl ⟨by rfl, ?_⟩) (fun _ _ _ h => h) (by assumption) ?_
  rotate_left
  · intro w hSw; (try dsimp only at hSw); go_simp; (try with_reducible rfl)
  simp only [Act.put, List.setIfInBounds_toArray, List.set_cons_zero, List.set_cons_succ]
  refine takeR (i := 12) (v := ?_) rfl (by kernel_rfl) (by kernel_rfl) (by kernel_rfl) (some 30) rfl (Or.inl ⟨by rfl, ?_⟩) (fun _ _ _ h => h) (by assumption) ?_
  rotate_left
  · intro w hSw; (try dsimp only at hSw); have cc := HC2.out _ hSw; go_simp; (try with_reducible rfl)
  simp only [Act.put, List.setIfInBounds_toArray, List.set_cons_zero, List.set_cons_succ]
  refine takeR (i := 13) (v := ?_) rfl (by kernel_rfl) (by kernel_rfl) (by kernel_rfl) (some 31) rfl (Or.inl ⟨by rfl, ?_⟩) (fun _ _ _ h => h) (by assumption) ?_
  rotate_left
  · intro w hSw; (try dsimp only at hSw); go_simp; (try with_reducible rfl)
  simp only [Act.put, List.setIfInBounds_toArray, List.set_cons_zero, List.set_cons_succ]
  refine takeR (i := 14) (v := ?_) rfl (by kernel_rfl) (by kernel_rfl) (by kernel_rfl) (some 32) rfl (Or.inl ⟨by rfl, ?_⟩) (fun _ _ _ h => h) (by assumption) ?_
  rotate_left
  · intro w hSw; (try dsimp only at hSw); go_simp; (try with_reducible rfl)
  simp only [Act.put, List.setIfInBounds_toArray, List.set_cons_zero, List.set_cons_succ]
  refine wpAnyH_ready (rs := [15]) (by kernel_rfl) (by simp) ?_
  refine AllReadyH.cons rfl (fun K hK => ?_) (AllReadyH.nil)
  go_simp
  refine hK.out _ _ (hHeld.alloc hgD _) (fun hHeld => ?_)
  clear hK K
  try simp only [Act.put, List.setIfInBounds_toArray, List.set_cons_zero, List.set_cons_succ]
  refine wpAnyH_ready (rs := [16]) (by kernel_rfl) (by simp) ?_
  refine AllReadyH.cons rfl (fun K hK => ?_) (AllReadyH.nil)
  go_simp
  refine hK.out _ _ (hKD.out.alloc hgD _) (fun hHeld => ?_)
  clear hK K
  try simp only [Act.put, List.setIfInBounds_toArray, List.set_cons_zero, List.set_cons_succ]
  refine wpAnyH_done (by kernel_rfl) ?_ _
  have R3 := hide_ (RD.alloc (.cells #[.int .i64 (z0 * 256 + z1), .int .i64 z2, .int .i64 0, .slice none 0 0] 50))
  have F3 := hide_ (FD.alloc (.cells #[.int .i64 (z0 * 256 + z1), .int .i64 z2, .int .i64 0, .slice none 0 0] 50))
  have C3 := hide_ (AB.at0 D 50 [.int .i64 (z0 * 256 + z1), .int .i64 z2, .int .i64 0, .slice none 0 0])
  have k3 := hide_ hHeld
  clear r0 r1 r2 r3 r4 r5 r6 r7 RD FD hHeld hKD
  generalize D.alloc (.cells #[.int .i64 (z0 * 256 + z1), .int .i64 z2, .int .i64 0, .slice none 0 0] 50) = X3 at *
  generalize D.heap.size = gC at *
  subst hD
  obtain ⟨a0, a1, a2, a3', a4, a5, a6, a7⟩ := C3.out.k4
  go_upto_region 5 with (go_at_call 55; refine (q4.out _ k3.out).mono ?_; rintro e w4 ⟨er4, rfl, rfl⟩)
  have R4 : Hid (AB (X3.setCell ⟨w.heap.size + 1 + 1, 2, none⟩ (.int .i64 y2)) w.heap.size 50 [.int .i64 0, .int .i64 0, .int .i64 0, .slice none 0 0]) := hide_ (R3.out.far _ (by omega))
  have F4 : Hid (AB (X3.setCell ⟨w.heap.size + 1 + 1, 2, none⟩ (.int .i64 y2)) (w.heap.size + 1) 44 [.bool false, .int .i64 0, .int .i64 0]) := hide_ (F3.out.far _ (by omega))
  have C4 : Hid (AB (X3.setCell ⟨w.heap.size + 1 + 1, 2, none⟩ (.int .i64 y2)) (w.heap.size + 1 + 1) 50 [.int .i64 (z0 * 256 + z1), .int .i64 z2, .int .i64 y2, .slice none 0 0]) := hide_ (C3.out.set (j := 2) _)
  have k4 : Hid (Below w.heap.size w (X3.setCell ⟨w.heap.size + 1 + 1, 2, none⟩ (.int .i64 y2))) := hide_ (k3.out.setCell (p := ⟨w.heap.size + 1 + 1, 2, none⟩) (by simp; omega) _)
  clear a0 a1 a2 a3' a4 a5 a6 a7 R3 F3 C3 k3 q4 HC HC1 HC2
  generalize X3.setCell _ _ = X4 at *
  obtain ⟨c0, c1, c2, c3, c4, c5, c6, c7⟩ := C4.out.k4
  go_wp2_with (go_at_call 70; refine (rgbad_any _ _).mono ?_; rintro e w9 ⟨rfl, b9⟩; have k9 := k4.out.trans (b9.mono k4.out.size); obtain ⟨r0, r1, r2, r3, r4, r5, r6, r7⟩ := (R4.out.later b9).k4; obtain ⟨s0, s1, s2, s3, s4, s5⟩ := ((F4.out.later b9).fark4 (f := w.heap.size) (by omega) (.int .i64 0) (.int .i64 0) (.int .i64 0) (.slice none 0 0)).three; obtain ⟨u0, u1, u2, u3, -⟩ := (((R4.out.later b9).setk4 (.int .i64 0) (.int .i64 0) (.int .i64 0) (.slice none 0 0)).farx3 (f := (w.heap.size + 1)) (by omega) (.bool true) (.int .i64 6) (.int .i64 11)).k4; obtain ⟨u4, u5, u6, -⟩ := (((F4.out.later b9).fark4 (f := w.heap.size) (by omega) (.int .i64 0) (.int .i64 0) (.int .i64 0) (.slice none 0 0)).set3 (.bool true) (.int .i64 6) (.int .i64 11)).three; have bb := below_set3 (g := (w.heap.size + 1)) (below_setk4 (g := w.heap.size) k9 (Nat.le_refl _) (.int .i64 0) (.int .i64 0) (.int .i64 0) (.slice none 0 0)) (by omega) (.bool true) (.int .i64 6) (.int .i64 11))
  exact bodyPost_ret (v := .tuple #[.agg #[.int .i64 0, .int .i64 0, .int .i64 0, .slice none 0 0], .agg #[.bool true, .int .i64 6, .int .i64 11]]) (by simp [results, Tryz.results32, go_sem, u0, u1, u2, u3, u4, u5, u6]) rfl ⟨rfl, bb⟩

set_option maxRecDepth 100000 in
set_option maxHeartbeats 8000000 in
theorem rgd_k (ao : Option Addr) (cap : Nat) (l : List Int) (w : World) (hB : Bytes w (.slice ao l.length cap) l) (h : 8 ≤ l.length) (hz : l.getD 3 0 = 0) (hc2 : ¬ 2 < be2 l 0) (hk2 : 3 < l.getD 2 0) :
    Calls Tryz.prog 32 #[.slice ao l.length cap] w fun e w' => e = .returned (.tuple #[.agg #[.int .i64 0, .int .i64 0, .int .i64 0, .slice none 0 0], .agg #[.bool true, .int .i64 6, .int .i64 10]]) ∧ Below w.heap.size w w' := by
  have R0 := hide_ ((AB.at0 w 50 [.int .i64 0, .int .i64 0, .int .i64 0, .slice none 0 0]).alloc (.cells #[.bool false, .int .i64 0, .int .i64 0] 44))
  have F0 := hide_ (AB.at1 w (.cells #[.int .i64 0, .int .i64 0, .int .i64 0, .slice none 0 0] 50) 44 [.bool false, .int .i64 0, .int .i64 0])
  have B0 := hide_ (below2 w (.cells #[.int .i64 0, .int .i64 0, .int .i64 0, .slice none 0 0] 50) (.cells #[.bool false, .int .i64 0, .int .i64 0] 44))
  have hm : l.length ≤ 9223372036854775807 := by obtain ⟨_, _, h1⟩ := Bytes.at hB; unfold maxLen at *; omega
  have h' : ¬ (l.length : Int) < 8 := by omega
  obtain ⟨bq, off, rfl, hib, hc⟩ := four_getD hB (by omega)
  have i0 : (0 : Int) < (l.length : Int) := by omega
  have i1 : (1 : Int) < (l.length : Int) := by omega
  have i2 : (2 : Int) < (l.length : Int) := by omega
  have i3 : (3 : Int) < (l.length : Int) := by omega
  have j0 : 0 < l.length := by omega
  have j1 : 1 < l.length := by omega
  have j2 : 2 < l.length := by omega
  have j3 : 3 < l.length := by omega
  have hbe : be2 l 0 = l.getD 0 0 * 256 + l.getD 1 0 := if_pos (by omega)
  obtain ⟨n0, m0⟩ := isB_getD hib 0
  obtain ⟨n1, m1⟩ := isB_getD hib 1
  obtain ⟨n2, m2⟩ := isB_getD hib 2
  obtain ⟨-, -, -, a3⟩ := hc _ B0.out
  rw [hz] at a3
  have HC := hide_ (fun W hW => (hc W hW).1)
  have HC1 := hide_ (fun W hW => (hc W hW).2.1)
  have HC2 := hide_ (fun W hW => (hc W hW).2.2.1)
  have q4 : Hid (∀ W, Below w.heap.size w W → Calls Tryz.prog 55 #[.slice (some ⟨bq, off, none⟩) l.length cap, .int .i64 4, .int .i64 4] W fun e w' => ∃ er, e = .returned (.tuple #[.int .i64 (be4 l 4), .int .i64 er]) ∧ W = w') := hide_ (fun W hW => rnget4 _ l 4 W (hB.later hW) (by omega))
  clear hc hib
  rw [hbe] at hc2
  clear hB h hz hbe
  generalize be4 l 4 = y2 at *
  generalize l.getD 0 0 = z0 at *
  generalize l.getD 1 0 = z1 at *
  generalize l.getD 2 0 = z2 at *
  have hw1 : IntKind.i64.wrap z0 = z0 := by rw [IntKind.wrap_i64]; omega
  have hw2 : IntKind.i64.wrap z1 = z1 := by rw [IntKind.wrap_i64]; omega
  have hw3 : IntKind.i64.wrap z2 = z2 := by rw [IntKind.wrap_i64]; omega
  have hw4 : IntKind.i64.wrap (z0 * 256) = z0 * 256 := by rw [IntKind.wrap_i64]; omega
  have hw5 : IntKind.i64.wrap (z0 * 256 + z1) = z0 * 256 + z1 := by rw [IntKind.wrap_i64]; omega
  go_enter Tryz.func32, Tryz.ntmps32
  go_upto_region 3 with fail
  refine wp_region_held_drew (S := (fun w' => Below w.heap.size w w')) (by kernel_rfl) (B0.out.drew) (fun hHeld => ?_)
  have hD : ((w.alloc (.cells #[.int .i64 0, .int .i64 0, .int .i64 0, .slice none 0 0] 50)).alloc (.cells #[.bool false, .int .i64 0, .int .i64 0] 44)).drew.heap.size = w.heap.size + 1 + 1 := by show (World.alloc _ _).heap.size = _; simp
  have RD : AB ((w.alloc (.cells #[.int .i64 0, .int .i64 0, .int .i64 0, .slice none 0 0] 50)).alloc (.cells #[.bool false, .int .i64 0, .int .i64 0] 44)).drew w.heap.size 50 [.int .i64 0, .int .i64 0, .int .i64 0, .slice none 0 0] := R0.out
  have FD : AB ((w.alloc (.cells #[.int .i64 0, .int .i64 0, .int .i64 0, .slice none 0 0] 50)).alloc (.cells #[.bool false, .int .i64 0, .int .i64 0] 44)).drew (w.heap.size + 1) 44 [.bool false, .int .i64 0, .int .i64 0] := F0.out
  generalize ((w.alloc (.cells #[.int .i64 0, .int .i64 0, .int .i64 0, .slice none 0 0] 50)).alloc (.cells #[.bool false, .int .i64 0, .int .i64 0] 44)).drew = D at *
  have hgD : w.heap.size ≤ D.heap.size := by omega
  have hKD := hide_ hHeld
  obtain ⟨r0, r1, r2, r3, r4, r5, r6, r7⟩ := (AB.at0 D 50 [.int .i64 0, .int .i64 0, .int .i64 0, .slice none 0 0]).k4
  refine takeR (i := 0) (v := ?_) rfl (by kernel_rfl) (by kernel_rfl) (by kernel_rfl) (some 18) rfl (Or.inl ⟨by rfl, ?_⟩) (fun _ _ _ h => h) (by assumption) ?_
  rotate_left
  · intro w hSw; (try dsimp only at hSw); go_simp; (try with_reducible rfl)
  simp only [Act.put, List.setIfInBounds_toArray, List.set_cons_zero, List.set_cons_succ]
  refine takeR (i := 1) (v := ?_) rfl (by kernel_rfl) (by kernel_rfl) (by kernel_rfl) (some 19) rfl (Or.inl ⟨by rfl, ?_⟩) (fun _ _ _ h => h) (by assumption) ?_
  rotate_left
  · intro w hSw; (try dsimp only at hSw); go_simp; (try with_reducible rfl)
  simp only [Act.put, List.setIfInBounds_toArray, List.set_cons_zero, List.set_cons_succ]
  refine takeR (i := 2) (v := ?_) rfl (by kernel_rfl) (by kernel_rfl) (by kernel_rfl) (some 20) rfl (Or.inl ⟨by rfl, ?_⟩) (fun _ _ _ h => h) (by assumption) ?_
  rotate_left
  · intro w hSw; (try dsimp only at hSw); have cc := HC.out _ hSw; go_simp; (try with_reducible rfl)
  simp only [Act.put, List.setIfInBounds_toArray, List.set_cons_zero, List.set_cons_succ]
  refine takeR (i := 3) (v := ?_) rfl (by kernel_rfl) (by kernel_rfl) (by kernel_rfl) (some 21) rfl (Or.inl ⟨by rfl, ?_⟩) (fun _ _ _ h => h) (by assumption) ?_
  rotate_left
  · intro w hSw; (try dsimp only at hSw); go_simp; (try with_reducible rfl)
  simp only [Act.put, List.setIfInBounds_toArray, List.set_cons_zero, List.set_cons_succ]
  refine takeR (i := 4) (v := ?_) rfl (by kernel_rfl) (by kernel_rfl) (by kernel_rfl) (some 22) rfl (Or.inl ⟨by rfl, ?_⟩) (fun _ _ _ h => h) (by assumption) ?_
  rotate_left
  · intro w hSw; (try dsimp only at hSw); go_simp; (try with_reducible rfl)
  simp only [Act.put, List.setIfInBounds_toArray, List.set_cons_zero, List.set_cons_succ]
  refine takeR (i := 5) (v := ?_) rfl (by kernel_rfl) (by kernel_rfl) (by kernel_rfl) (some 23) rfl (Or.inl ⟨by rfl, ?_⟩) (fun _ _ _ h => h) (by assumption) ?_
  rotate_left
  · intro w hSw; (try dsimp only at hSw); go_simp; (try with_reducible rfl)
  simp only [Act.put, List.setIfInBounds_toArray, List.set_cons_zero, List.set_cons_succ]
  refine takeR (i := 6) (v := ?_) rfl (by kernel_rfl) (by kernel_rfl) (by kernel_rfl) (some 24) rfl (Or.inl ⟨by rfl, ?_⟩) (fun _ _ _ h => h) (by assumption) ?_
  rotate_left
  · intro w hSw; (try dsimp only at hSw); go_simp; (try with_reducible rfl)
  simp only [Act.put, List.setIfInBounds_toArray, List.set_cons_zero, List.set_cons_succ]
  refine takeR (i := 7) (v := ?_) rfl (by kernel_rfl) (by kernel_rfl) (by kernel_rfl) (some 25) rfl (Or.inl ⟨by rfl, ?_⟩) (fun _ _ _ h => h) (by assumption) ?_
  rotate_left
  · intro w hSw; (try dsimp only at hSw); have cc := HC1.out _ hSw; go_simp; (try with_reducible rfl)
  simp only [Act.put, List.setIfInBounds_toArray, List.set_cons_zero, List.set_cons_succ]
  refine takeR (i := 8) (v := ?_) rfl (by kernel_rfl) (by kernel_rfl) (by kernel_rfl) (some 26) rfl (Or.inl ⟨by rfl, ?_⟩) (fun _ _ _ h => h) (by assumption) ?_
  rotate_left
  · intro w hSw; (try dsimp only at hSw); go_simp; (try with_reducible rfl)
  simp only [Act.put, List.setIfInBounds_toArray, List.set_cons_zero, List.set_cons_succ]
  refine takeR (i := 9) (v := ?_) rfl (by kernel_rfl) (by kernel_rfl) (by kernel_rfl) (some 27) rfl (Or.inl ⟨by rfl, ?_⟩) (fun _ _ _ h => h) (by assumption) ?_
  rotate_left
  · intro w hSw; (try dsimp only at hSw); go_simp; (try with_reducible rfl)
  simp only [Act.put, List.setIfInBounds_toArray, List.set_cons_zero, List.set_cons_succ]
  refine takeR (i := 10) (v := ?_) rfl (by kernel_rfl) (by kernel_rfl) (by kernel_rfl) (some 28) rfl (Or.inl ⟨by rfl, ?_⟩) (fun _ _ _ h => h) (by assumption) ?_
  rotate_left
  · intro w hSw; (try dsimp only at hSw); go_simp; (try with_reducible rfl)
  simp only [Act.put, List.setIfInBounds_toArray, List.set_cons_zero, List.set_cons_succ]
  refine takeR (i := 11) (v := ?_) rfl (by kernel_rfl) (by kernel_rfl) (by kernel_rfl) (some 29) rfl (Or.inl ⟨by rfl, ?_⟩) (fun _ _ _ h => h) (by assumption) ?_
  rotate_left
  · intro w hSw; (try dsimp only at hSw); go_simp; (try with_reducible rfl)
  simp only [Act.put, List.setIfInBounds_toArray, List.set_cons_zero, List.set_cons_succ]
  refine takeR (i := 12) (v := ?_) rfl (by kernel_rfl) (by kernel_rfl) (by kernel_rfl) (some 30) rfl (Or.inl ⟨by rfl, ?_⟩) (fun _ _ _ h => h) (by assumption) ?_
  rotate_left
  · intro w hSw; (try dsimp only at hSw); have cc := HC2.out _ hSw; go_simp; (try with_reducible rfl)
  simp only [Act.put, List.setIfInBounds_toArray, List.set_cons_zero, List.set_cons_succ]
  refine takeR (i := 13) (v := ?_) rfl (by kernel_rfl) (by kernel_rfl) (by kernel_rfl) (some 31) rfl (Or.inl ⟨by rfl, ?_⟩) (fun _ _ _ h => h) (by assumption) ?_
  rotate_left
  · intro w hSw; (try dsimp only at hSw); go_simp; (try with_reducible rfl)
  simp only [Act.put, List.setIfInBounds_toArray, List.set_cons_zero, List.set_cons_succ]
  refine takeR (i := 14) (v := ?_) rfl (by kernel_rfl) (by kernel_rfl) (by kernel_rfl) (some 32) rfl (Or.inl ⟨by rfl, ?_⟩) (fun _ _ _ h => h) (by assumption) ?_
  rotate_left
  · intro w hSw; (try dsimp only at hSw); go_simp; (try with_reducible rfl)
  simp only [Act.put, List.setIfInBounds_toArray, List.set_cons_zero, List.set_cons_succ]
  refine wpAnyH_ready (rs := [15]) (by kernel_rfl) (by simp) ?_
  refine AllReadyH.cons rfl (fun K hK => ?_) (AllReadyH.nil)
  go_simp
  refine hK.out _ _ (hHeld.alloc hgD _) (fun hHeld => ?_)
  clear hK K
  try simp only [Act.put, List.setIfInBounds_toArray, List.set_cons_zero, List.set_cons_succ]
  refine wpAnyH_ready (rs := [16]) (by kernel_rfl) (by simp) ?_
  refine AllReadyH.cons rfl (fun K hK => ?_) (AllReadyH.nil)
  go_simp
  refine hK.out _ _ (hKD.out.alloc hgD _) (fun hHeld => ?_)
  clear hK K
  try simp only [Act.put, List.setIfInBounds_toArray, List.set_cons_zero, List.set_cons_succ]
  refine wpAnyH_done (by kernel_rfl) ?_ _
  have R3 := hide_ (RD.alloc (.cells #[.int .i64 (z0 * 256 + z1), .int .i64 z2, .int .i64 0, .slice none 0 0] 50))
  have F3 := hide_ (FD.alloc (.cells #[.int .i64 (z0 * 256 + z1), .int .i64 z2, .int .i64 0, .slice none 0 0] 50))
  have C3 := hide_ (AB.at0 D 50 [.int .i64 (z0 * 256 + z1), .int .i64 z2, .int .i64 0, .slice none 0 0])
  have k3 := hide_ hHeld
  clear r0 r1 r2 r3 r4 r5 r6 r7 RD FD hHeld hKD
  generalize D.alloc (.cells #[.int .i64 (z0 * 256 + z1), .int .i64 z2, .int .i64 0, .slice none 0 0] 50) = X3 at *
  generalize D.heap.size = gC at *
  subst hD
  obtain ⟨a0, a1, a2, a3', a4, a5, a6, a7⟩ := C3.out.k4
  go_upto_region 5 with (go_at_call 55; refine (q4.out _ k3.out).mono ?_; rintro e w4 ⟨er4, rfl, rfl⟩)
  have R4 : Hid (AB (X3.setCell ⟨w.heap.size + 1 + 1, 2, none⟩ (.int .i64 y2)) w.heap.size 50 [.int .i64 0, .int .i64 0, .int .i64 0, .slice none 0 0]) := hide_ (R3.out.far _ (by omega))
  have F4 : Hid (AB (X3.setCell ⟨w.heap.size + 1 + 1, 2, none⟩ (.int .i64 y2)) (w.heap.size + 1) 44 [.bool false, .int .i64 0, .int .i64 0]) := hide_ (F3.out.far _ (by omega))
  have C4 : Hid (AB (X3.setCell ⟨w.heap.size + 1 + 1, 2, none⟩ (.int .i64 y2)) (w.heap.size + 1 + 1) 50 [.int .i64 (z0 * 256 + z1), .int .i64 z2, .int .i64 y2, .slice none 0 0]) := hide_ (C3.out.set (j := 2) _)
  have k4 : Hid (Below w.heap.size w (X3.setCell ⟨w.heap.size + 1 + 1, 2, none⟩ (.int .i64 y2))) := hide_ (k3.out.setCell (p := ⟨w.heap.size + 1 + 1, 2, none⟩) (by simp; omega) _)
  clear a0 a1 a2 a3' a4 a5 a6 a7 R3 F3 C3 k3 q4 HC HC1 HC2
  generalize X3.setCell _ _ = X4 at *
  obtain ⟨c0, c1, c2, c3, c4, c5, c6, c7⟩ := C4.out.k4
  go_wp2_with (go_at_call 70; refine (rgbad_any _ _).mono ?_; rintro e w9 ⟨rfl, b9⟩; have k9 := k4.out.trans (b9.mono k4.out.size); obtain ⟨r0, r1, r2, r3, r4, r5, r6, r7⟩ := (R4.out.later b9).k4; obtain ⟨s0, s1, s2, s3, s4, s5⟩ := ((F4.out.later b9).fark4 (f := w.heap.size) (by omega) (.int .i64 0) (.int .i64 0) (.int .i64 0) (.slice none 0 0)).three; obtain ⟨u0, u1, u2, u3, -⟩ := (((R4.out.later b9).setk4 (.int .i64 0) (.int .i64 0) (.int .i64 0) (.slice none 0 0)).farx3 (f := (w.heap.size + 1)) (by omega) (.bool true) (.int .i64 6) (.int .i64 10)).k4; obtain ⟨u4, u5, u6, -⟩ := (((F4.out.later b9).fark4 (f := w.heap.size) (by omega) (.int .i64 0) (.int .i64 0) (.int .i64 0) (.slice none 0 0)).set3 (.bool true) (.int .i64 6) (.int .i64 10)).three; have bb := below_set3 (g := (w.heap.size + 1)) (below_setk4 (g := w.heap.size) k9 (Nat.le_refl _) (.int .i64 0) (.int .i64 0) (.int .i64 0) (.slice none 0 0)) (by omega) (.bool true) (.int .i64 6) (.int .i64 10))
  exact bodyPost_ret (v := .tuple #[.agg #[.int .i64 0, .int .i64 0, .int .i64 0, .slice none 0 0], .agg #[.bool true, .int .i64 6, .int .i64 10]]) (by simp [results, Tryz.results32, go_sem, u0, u1, u2, u3, u4, u5, u6]) rfl ⟨rfl, bb⟩

end Go.Proofs.YthhijfphfcmniaaGreat

namespace Go.Proofs.YthhijfphfcmniaaGreat
open Go Go.RowKit
set_option linter.unusedVariables false
set_option linter.unusedSimpArgs false

set_option maxRecDepth 100000 in
set_option maxHeartbeats 8000000 in
theorem rbd_okS (v : Value) (l0 : List Int) (Ls : List BK) (w : World) (hB : Bytes w v l0) (h6 : l0.length ≤ 60000) (hP : BOk RAns l0 Ls) (hLL : Ls.length ≤ 100) :
    Calls Tryz.prog 71 #[v] w fun e w' => (∃ r, e = .returned (.tuple #[r, .agg #[.bool false, .int .i64 0, .int .i64 0]]) ∧ ∃ P : List PB, P.map (·.1) = Ls ∧ BRow w' (w.heap.size + 1) r P) ∧ Below w.heap.size w w' := by
  have F0 := hide_ ((AB.at0 w 44 [.bool false, .int .i64 0, .int .i64 0]).alloc (.cells #[] 87))
  have B0 := hide_ (below2 w (.cells #[.bool false, .int .i64 0, .int .i64 0] 44) (.cells #[] 87))
  have OE : Hid (BRow ((w.alloc (.cells #[.bool false, .int .i64 0, .int .i64 0] 44)).alloc (.cells #[] 87)) (w.heap.size + 1) (.slice (some ⟨w.heap.size + 1, 0, none⟩) 0 0) []) := hide_ ⟨⟨rfl, .inr ⟨w.heap.size + 1, 0, #[], rfl, Nat.le_refl _, by simpa using heap_alloc_last (w.alloc (.cells #[.bool false, .int .i64 0, .int .i64 0] 44)) (.cells #[] 87), Nat.le_refl _, by decide, rfl, rfl⟩⟩, fun p hp => by cases hp⟩
  have HSZ : Hid ((w.heap.size + 1) ≤ ((w.alloc (.cells #[.bool false, .int .i64 0, .int .i64 0] 44)).alloc (.cells #[] 87)).heap.size) := hide_ (by simp)
  obtain ⟨ao0, cap0, rfl, hbr⟩ := hB
  have hB : Bytes w (.slice ao0 l0.length cap0) l0 := ⟨ao0, cap0, rfl, hbr⟩
  have HB0 := hide_ hB
  have g6 : ¬ (60000 : Int) < (l0.length : Int) := by omega
  clear hB hbr
  obtain ⟨i0, hi0, hz0, hz1, hz2⟩ := info_parts infoBu
  have HI : Hid (Tryz.prog.info? 87 = some i0 ∧ i0.zero = some (.agg #[.int .i64 0, .int .i64 0, .int .i64 0, .slice none 0 0]) ∧ i0.size = 4 ∧ i0.bytes = 48) := ⟨hi0, hz0, hz1, hz2⟩
  clear hi0 hz0 hz1 hz2
  have HP := hide_ hP
  clear hP
  have HLL := hide_ hLL
  clear hLL
  go_enter Tryz.func71, Tryz.ntmps71
  go_wp2
  go_loopw [4, 5] (fun u i wr => ∃ (at_ m : Nat) (ua : Option Addr) (uc : Nat) (pre : List BK) (P : List PB) (R : List BK), i = .int .i64 (at_ : Int) ∧ u = .slice ua m uc ∧ at_ ≤ l0.length ∧ 16 * m ≤ at_ ∧ Hid (m = P.length) ∧ Hid (BRow wr (w.heap.size + 1) (.slice ua m uc) P) ∧ Hid (BOk RAns (l0.drop at_) R ∧ pre ++ R = Ls) ∧ Hid (P.map (·.1) = pre) ∧ Hid (Below (w.heap.size + 1) ((w.alloc (.cells #[.bool false, .int .i64 0, .int .i64 0] 44)).alloc (.cells #[] 87)) wr)) (fun _ i _ => l0.length - (intOf i).toNat)
  case atStart => exact ⟨0, 0, _, _, [], [], Ls, rfl, rfl, Nat.zero_le _, Nat.le_refl _, hide_ rfl, OE, hide_ ⟨HP.out, rfl⟩, hide_ rfl, hide_ (Below.refl _ _)⟩
  case round =>
    obtain ⟨at_, m, ua, uc, pre, P, R, rfl, rfl, hn, hm, HM, HOw, HPP, HK, KB⟩ := hrel
    have KW := hide_ (B0.out.trans (KB.out.mono (Nat.le_succ _)))
    have HBw := hide_ (HB0.out.later KW.out)
    obtain ⟨hpo, hpre⟩ := HPP.out
    clear HPP
    generalize hdd : l0.drop at_ = dd at *
    cases hpo with
    | nil =>
      have hnl : ¬ (at_ : Int) < (l0.length : Int) := by
        have := congrArg List.length hdd
        rw [List.length_drop] at this
        simp at this
        omega
      have hpr : pre = Ls := by simpa using hpre
      clear hdd
      obtain ⟨s0, s1, s2', s3, s4, s5⟩ := (F0.out.below KB.out (Nat.lt_succ_self _)).three
      obtain ⟨u0, u1, u2, -⟩ := ((F0.out.below KB.out (Nat.lt_succ_self _)).set3 (.bool false) (.int .i64 0) (.int .i64 0)).three
      have bb := below_set3 (g := w.heap.size) KW.out (Nat.le_refl _) (.bool false) (.int .i64 0) (.int .i64 0)
      have hne : w.heap.size < (w.heap.size + 1) := Nat.lt_succ_self _
      have HX := hide_ (fun x y z => HOw.out.far3 hne x y z)
      have hKL : P.map (·.1) = Ls := by rw [HK.out, hpr]
      have g100 : ¬ (100 : Int) < (m : Int) := by have h1 := HLL.out; rw [← hKL, List.length_map, ← HM.out] at h1; omega
      have HKL := hide_ hKL
      clear hpre hpr hKL
      go_wp2
      refine bodyPost_ret (v := .tuple #[.slice ua m uc, .agg #[.bool false, .int .i64 0, .int .i64 0]]) (by simp [results, Tryz.results71, go_sem, u0, u1, u2]) rfl ⟨⟨_, rfl, ?_⟩, bb⟩
      exact ⟨_, HKL.out, HX.out _ _ _⟩
    | @cons _ nn LL RR hd hrest =>
      subst hdd
      have hrest := hide_ hrest
      have hpre := hide_ hpre
      have hcut := hd.1
      have hN := hd.2.1
      have hz := hd.2.2.1
      have hlr : (l0.drop at_).length = l0.length - at_ := List.length_drop
      have h16 : 16 ≤ nn := by unfold cutOk at hcut; omega
      have hle : at_ + nn ≤ l0.length := by unfold cutOk at hcut; omega
      have h8 : ((nn : Nat) : Int) % 8 = 0 := by unfold cutOk at hcut; omega
      obtain ⟨y12, y13, y14, y15, i12, i13, i14, i15, hnz⟩ := nz_four (m := l0.drop at_) (by omega)
      rw [take16 _ _ h16, hnz] at hz
      have hzz : y12 = 0 ∧ y13 = 0 ∧ y14 = 0 ∧ y15 = 0 := by simpa using hz
      obtain ⟨rfl, rfl, rfl, rfl⟩ := hzz
      obtain ⟨-, -, -, hat⟩ := Bytes.at HBw.out
      obtain ⟨bq, off, eq0, C12⟩ := hat _ _ (drop_at _ _ _ _ i12)
      have e13 := hat _ _ (drop_at _ _ _ _ i13)
      have e14 := hat _ _ (drop_at _ _ _ _ i14)
      have e15 := hat _ _ (drop_at _ _ _ _ i15)
      subst eq0
      obtain ⟨_, _, eq1, C13⟩ := e13
      cases eq1
      obtain ⟨_, _, eq1, C14⟩ := e14
      cases eq1
      obtain ⟨_, _, eq1, C15⟩ := e15
      cases eq1
      have hlN : ((l0.drop at_).take nn).length = nn := by rw [List.length_take]; omega
      have q0 := rnget2 _ l0 at_ wr HBw.out (by omega)
      rw [show be2 l0 at_ = (nn : Int) from (be2_drop l0 at_ 0).trans hN] at q0
      have eb1 : be2 ((l0.drop at_).take nn) 2 = be2 l0 (at_ + 2) := (be2_take (by omega) (by omega)).trans (be2_drop l0 at_ 2).symm
      have eb2 : be4 ((l0.drop at_).take nn) 4 = be4 l0 (at_ + 4) := (be4_take (by omega) (by omega)).trans (be4_drop l0 at_ 4).symm
      have eb3 : be4 ((l0.drop at_).take nn) 8 = be4 l0 (at_ + 8) := (be4_take (by omega) (by omega)).trans (be4_drop l0 at_ 8).symm
      obtain ⟨v1, hv1⟩ : ∃ v, be2 l0 (at_ + 2) = v := ⟨_, rfl⟩
      obtain ⟨v2, hv2⟩ : ∃ v, be4 l0 (at_ + 4) = v := ⟨_, rfl⟩
      obtain ⟨v3, hv3⟩ : ∃ v, be4 l0 (at_ + 8) = v := ⟨_, rfl⟩
      obtain ⟨p2, hp2⟩ : ∃ p : Int, (at_ : Int) + 2 = p := ⟨_, rfl⟩
      obtain ⟨p4, hp4⟩ : ∃ p : Int, (at_ : Int) + 4 = p := ⟨_, rfl⟩
      obtain ⟨p8, hp8⟩ : ∃ p : Int, (at_ : Int) + 8 = p := ⟨_, rfl⟩
      have q2 : ∀ W, Below wr.heap.size wr W → Calls Tryz.prog 55 #[.slice (some ⟨bq, off, none⟩) l0.length cap0, .int .i64 p2, .int .i64 2] W fun e w' => ∃ er, e = .returned (.tuple #[.int .i64 v1, .int .i64 er]) ∧ W = w' := fun W hW => by
        have := rnget2 _ l0 (at_ + 2) W (HBw.out.later hW) (by omega)
        rw [hv1] at this
        rw [← hp2]
        exact this
      have q4 : ∀ W, Below wr.heap.size wr W → Calls Tryz.prog 55 #[.slice (some ⟨bq, off, none⟩) l0.length cap0, .int .i64 p4, .int .i64 4] W fun e w' => ∃ er, e = .returned (.tuple #[.int .i64 v2, .int .i64 er]) ∧ W = w' := fun W hW => by
        have := rnget4 _ l0 (at_ + 4) W (HBw.out.later hW) (by omega)
        rw [hv2] at this
        rw [← hp4]
        exact this
      have q8 : ∀ W, Below wr.heap.size wr W → Calls Tryz.prog 55 #[.slice (some ⟨bq, off, none⟩) l0.length cap0, .int .i64 p8, .int .i64 4] W fun e w' => ∃ er, e = .returned (.tuple #[.int .i64 v3, .int .i64 er]) ∧ W = w' := fun W hW => by
        have := rnget4 _ l0 (at_ + 8) W (HBw.out.later hW) (by omega)
        rw [hv3] at this
        rw [← hp8]
        exact this
      obtain ⟨ao2, sl2, bb2⟩ := bytes_mid HBw.out (at_ + 16) (at_ + nn) (by omega) hle
      rw [mid_drop, show at_ + nn - (at_ + 16) = nn - 16 by omega] at bb2
      rw [show at_ + nn - (at_ + 16) = nn - 16 by omega] at sl2
      have sl2 : ∀ wx, (Instr.slice 25 (.slice (some ⟨bq, off, none⟩) l0.length cap0) (some (.int .i64 ((at_ : Int) + 16))) (some (.int .i64 ((at_ : Int) + (nn : Int)))) none).run Tryz.prog wx = .ok (.slice ao2 (nn - 16) (cap0 - (at_ + 16))) wx := sl2
      have g1 : (at_ : Int) < (l0.length : Int) := by omega
      have hw0 : IntKind.i64.wrap ((l0.length : Int) - (at_ : Int)) = (l0.length : Int) - (at_ : Int) := by rw [IntKind.wrap_i64]; omega
      have g2 : ¬ ((l0.length : Int) - (at_ : Int) < 16) := by omega
      have g3 : ¬ ((nn : Int) < 16) := by omega
      have g4 : ¬ ((l0.length : Int) - (at_ : Int) < (nn : Int)) := by omega
      have g5 : ¬ ((nn : Int) > (l0.length : Int) - (at_ : Int)) := by omega
      have hw2 : IntKind.i64.wrap ((at_ : Int) + 2) = p2 := by rw [IntKind.wrap_i64]; omega
      have hw4 : IntKind.i64.wrap ((at_ : Int) + 4) = p4 := by rw [IntKind.wrap_i64]; omega
      have hw8 : IntKind.i64.wrap ((at_ : Int) + 8) = p8 := by rw [IntKind.wrap_i64]; omega
      have hw12 : IntKind.i64.wrap ((at_ : Int) + 12) = (at_ : Int) + 12 := by rw [IntKind.wrap_i64]; omega
      have hw13 : IntKind.i64.wrap ((at_ : Int) + 13) = (at_ : Int) + 13 := by rw [IntKind.wrap_i64]; omega
      have hw14 : IntKind.i64.wrap ((at_ : Int) + 14) = (at_ : Int) + 14 := by rw [IntKind.wrap_i64]; omega
      have hw15 : IntKind.i64.wrap ((at_ : Int) + 15) = (at_ : Int) + 15 := by rw [IntKind.wrap_i64]; omega
      have hw16 : IntKind.i64.wrap ((at_ : Int) + 16) = (at_ : Int) + 16 := by rw [IntKind.wrap_i64]; omega
      have hwn : IntKind.i64.wrap ((at_ : Int) + (nn : Int)) = (at_ : Int) + (nn : Int) := by rw [IntKind.wrap_i64]; omega
      have qd := fun W (hW : Below wr.heap.size wr W) => rad_ok _ _ LL W (bb2.later hW) (by rw [List.length_drop, hlN]; omega) hd.2.2.2.1 hd.2.2.2.2
      have HRE := hide_ (show bkOf (l0.drop at_) nn LL = (v1, v2, v3, LL) by unfold bkOf; rw [eb1, eb2, eb3, hv1, hv2, hv3])
      obtain ⟨rn, hrn⟩ : ∃ rn, LL.length = rn := ⟨_, rfl⟩
      have HRN := hide_ hrn
      have q0 := hide_ q0
      have q2 := hide_ q2
      have q4 := hide_ q4
      have q8 := hide_ q8
      have qd := hide_ qd
      have hle := hide_ hle
      clear hp2 hp4 hp8
      clear hd hcut hN hz hnz i12 i13 i14 i15 hat eb1 eb2 eb3 hv1 hv2 hv3 bb2 hrn hlN hlr
      have J1 : Hid (Below wr.heap.size wr (wr.alloc (.cells #[.int .i64 0, .int .i64 0, .int .i64 0, .slice none 0 0] 87))) := hide_ (below1 wr _)
      have J2 : Hid (Below wr.heap.size wr (wr.alloc (.cells #[.int .i64 v1, .int .i64 0, .int .i64 0, .slice none 0 0] 87))) := hide_ (below1 wr _)
      have J3 : Hid (Below wr.heap.size wr (wr.alloc (.cells #[.int .i64 v1, .int .i64 v2, .int .i64 0, .slice none 0 0] 87))) := hide_ (below1 wr _)
      have J4 : Hid (Below wr.heap.size wr (wr.alloc (.cells #[.int .i64 v1, .int .i64 v2, .int .i64 v3, .slice none 0 0] 87))) := hide_ (below1 wr _)
      have X4 : Hid (AB (wr.alloc (.cells #[.int .i64 v1, .int .i64 v2, .int .i64 v3, .slice none 0 0] 87)) wr.heap.size 87 [.int .i64 v1, .int .i64 v2, .int .i64 v3, .slice none 0 0]) := hide_ (AB.at0 wr 87 [.int .i64 v1, .int .i64 v2, .int .i64 v3, .slice none 0 0])
      go_upto_region 19 with (first | (go_at_call_of 55 (Value.int IntKind.i64 (at_ : Int)); refine (q0.out).mono ?_; rintro e w9 ⟨er0, rfl, rfl⟩) | (go_at_call_of 55 (Value.int IntKind.i64 p2); refine (q2.out _ J1.out).mono ?_; rintro e w9 ⟨er2, rfl, rfl⟩) | (go_at_call_of 55 (Value.int IntKind.i64 p4); refine (q4.out _ J2.out).mono ?_; rintro e w9 ⟨er4, rfl, rfl⟩) | (go_at_call_of 55 (Value.int IntKind.i64 p8); refine (q8.out _ J3.out).mono ?_; rintro e w9 ⟨er8, rfl, rfl⟩) | (go_at_call 96; refine (qd.out _ J4.out).mono ?_; rintro e w5 ⟨⟨r, rfl, ho⟩, b5⟩; obtain ⟨ru, rc, er⟩ := ownr_form ho; rw [HRN.out] at er; subst er; have HA5 := hide_ ho; have hb5 := hide_ b5; obtain ⟨z0, z1, z2, z3, z4, z5, z6, z7⟩ := ((X4.out.later b5).alloc (.cells #[.bool false, .int .i64 0, .int .i64 0] 44)).k4; obtain ⟨f0, f1, f2, -⟩ := (AB.at0 w5 44 [.bool false, .int .i64 0, .int .i64 0]).three; clear ho b5))
      have X6 : AB ((w5.alloc (.cells #[.bool false, .int .i64 0, .int .i64 0] 44)).setCell ⟨wr.heap.size, 3, none⟩ (.slice ru rn rc)) wr.heap.size 87 [.int .i64 v1, .int .i64 v2, .int .i64 v3, .slice ru rn rc] := (((X4.out.later hb5.out).alloc (.cells #[.bool false, .int .i64 0, .int .i64 0] 44)).set (j := 3) (.slice ru rn rc))
      have K5 : Below wr.heap.size wr (w5.alloc (.cells #[.bool false, .int .i64 0, .int .i64 0] 44)) := J4.out.trans ((hb5.out.trans ((below1 w5 (.cells #[.bool false, .int .i64 0, .int .i64 0] 44)).mono hb5.out.size)).mono J4.out.size)
      have K6 : Below wr.heap.size wr ((w5.alloc (.cells #[.bool false, .int .i64 0, .int .i64 0] 44)).setCell ⟨wr.heap.size, 3, none⟩ (.slice ru rn rc)) := K5.setCell (p := ⟨wr.heap.size, 3, none⟩) (Nat.le_refl _) _
      have HRV := hide_ (HOw.out.later K6)
      have hlt4 : wr.heap.size < (wr.alloc (.cells #[.int .i64 v1, .int .i64 v2, .int .i64 v3, .slice none 0 0] 87)).heap.size := X4.out.lt
      have hg0 : (w.heap.size + 1) ≤ wr.heap.size := Nat.le_trans HSZ.out KB.out.size
      have HAV := hide_ (ownr_base (far1row (ownr_later HA5.out (below1 w5 (.cells #[.bool false, .int .i64 0, .int .i64 0] 44))) hlt4 3 (.slice ru rn rc)) (Nat.le_trans hg0 (Nat.le_of_lt hlt4)))
      have hsV := hide_ (Nat.le_trans hg0 K6.size)
      have KV := hide_ (KB.out.trans (K6.mono hg0))
      obtain ⟨c0, c1, c2, c3, -⟩ := X6.k4
      clear X6 K5 K6 hlt4 hg0 z0 z1 z2 z3 z4 z5 z6 z7 f0 f1 f2 hb5 HA5 X4 J1 J2 J3 J4
      generalize ((w5.alloc (.cells #[.bool false, .int .i64 0, .int .i64 0] 44)).setCell ⟨wr.heap.size, 3, none⟩ (.slice ru rn rc)) = V at *
      go_wp2_with (at_builtin; refine wpList_append_newG (.tmp 121) (.tmp 123) 48 rfl 87 i0 (.agg #[.int .i64 0, .int .i64 0, .int .i64 0, .slice none 0 0]) 4 48 Tryz.underlying48 HI.out.1 HI.out.2.1 HI.out.2.2.1 HI.out.2.2.2 rfl (by decide) (w.heap.size + 1) (.slice ua m uc) m (bds P) (by simp [Act.eval, Act.put]) V (by have := HRV.out.1; rw [← HM.out] at this; exact this) [.int .i64 v1, .int .i64 v2, .int .i64 v3, .slice ru rn rc] _ rfl 1 (by simp) (by simp [Value.oneCell']) (by simp [Act.eval, Act.put]) (by simp [Region.wanted]) (by unfold maxLen; omega) (by omega) hsV.out ?_; intro v8 w8 own8 b8 g8)
      have HAV2 : V.ownsRow (w.heap.size + 1) 61 11 (.slice ru rn rc) LL.length (ads LL) := by have := HAV.out; rw [← HRN.out] at this ⊢; exact this
      have R8 : BRow w8 (w.heap.size + 1) v8 (P ++ [((v1, v2, v3, LL), (.slice ru rn rc))]) := BRow.push HRV.out HAV2 (by rw [← HM.out]; exact own8) g8
      have hl8 : (P ++ [((v1, v2, v3, LL), Value.slice ru rn rc)]).length = m + 1 := by rw [List.length_append, ← HM.out]; rfl
      obtain ⟨ua8, uc8, e8⟩ := ownr_form R8.1
      rw [hl8] at e8
      subst e8
      have R8 := hide_ R8
      have HM8 := hide_ hl8.symm
      have HK2 := hide_ (show (P ++ [((v1, v2, v3, LL), Value.slice ru rn rc)]).map (·.1) = pre ++ [(v1, v2, v3, LL)] by rw [List.map_append, HK.out]; rfl)
      have K8 := hide_ (KV.out.trans b8)
      have HWN := hide_ (show (at_ : Int) + (nn : Int) = ((at_ + nn : Nat) : Int) by omega)
      clear hl8 own8 g8 b8 HAV2
      go_wp2
      go_roundw
      case rel => exact ⟨at_ + nn, m + 1, ua8, uc8, pre ++ [(v1, v2, v3, LL)], P ++ [((v1, v2, v3, LL), .slice ru rn rc)], RR, by first | (rw [HWN.out]; done) | simp, rfl, hle.out, by omega, HM8, R8, hide_ ⟨by rw [← List.drop_drop]; exact hrest.out, by rw [← hpre.out, HRE.out]; simp⟩, HK2, K8⟩
      case measure => simp [intOf]; omega

end Go.Proofs.YthhijfphfcmniaaGreat

namespace Go.Proofs.YthhijfphfcmniaaGreat
open Go Go.RowKit
set_option linter.unusedVariables false
set_option linter.unusedSimpArgs false

set_option maxRecDepth 100000 in
set_option maxHeartbeats 8000000 in
theorem rgd_bad (ao : Option Addr) (cap : Nat) (l : List Int) (c d : Int) (w : World) (hB : Bytes w (.slice ao l.length cap) l) (h : 8 ≤ l.length) (hz : l.getD 3 0 = 0) (hc2 : ¬ 2 < be2 l 0) (hk2 : ¬ 3 < l.getD 2 0) (hP : ∀ (v : Value) (W : World), Bytes W v (l.drop 8) → Calls Tryz.prog 71 #[v] W fun e w' => e = .returned (.tuple #[.slice none 0 0, .agg #[.bool true, .int .i64 c, .int .i64 d]]) ∧ Below W.heap.size W w') :
    Calls Tryz.prog 32 #[.slice ao l.length cap] w fun e w' => e = .returned (.tuple #[.agg #[.int .i64 0, .int .i64 0, .int .i64 0, .slice none 0 0], .agg #[.bool true, .int .i64 c, .int .i64 d]]) ∧ Below w.heap.size w w' := by
  have R0 := hide_ ((AB.at0 w 50 [.int .i64 0, .int .i64 0, .int .i64 0, .slice none 0 0]).alloc (.cells #[.bool false, .int .i64 0, .int .i64 0] 44))
  have F0 := hide_ (AB.at1 w (.cells #[.int .i64 0, .int .i64 0, .int .i64 0, .slice none 0 0] 50) 44 [.bool false, .int .i64 0, .int .i64 0])
  have B0 := hide_ (below2 w (.cells #[.int .i64 0, .int .i64 0, .int .i64 0, .slice none 0 0] 50) (.cells #[.bool false, .int .i64 0, .int .i64 0] 44))
  have hm : l.length ≤ 9223372036854775807 := by obtain ⟨_, _, h1⟩ := Bytes.at hB; unfold maxLen at *; omega
  have h' : ¬ (l.length : Int) < 8 := by omega
  obtain ⟨bq, off, rfl, hib, hc⟩ := four_getD hB (by omega)
  have i0 : (0 : Int) < (l.length : Int) := by omega
  have i1 : (1 : Int) < (l.length : Int) := by omega
  have i2 : (2 : Int) < (l.length : Int) := by omega
  have i3 : (3 : Int) < (l.length : Int) := by omega
  have j0 : 0 < l.length := by omega
  have j1 : 1 < l.length := by omega
  have j2 : 2 < l.length := by omega
  have j3 : 3 < l.length := by omega
  have hbe : be2 l 0 = l.getD 0 0 * 256 + l.getD 1 0 := if_pos (by omega)
  obtain ⟨n0, m0⟩ := isB_getD hib 0
  obtain ⟨n1, m1⟩ := isB_getD hib 1
  obtain ⟨n2, m2⟩ := isB_getD hib 2
  obtain ⟨-, -, -, a3⟩ := hc _ B0.out
  rw [hz] at a3
  have HC := hide_ (fun W hW => (hc W hW).1)
  have HC1 := hide_ (fun W hW => (hc W hW).2.1)
  have HC2 := hide_ (fun W hW => (hc W hW).2.2.1)
  have q4 : Hid (∀ W, Below w.heap.size w W → Calls Tryz.prog 55 #[.slice (some ⟨bq, off, none⟩) l.length cap, .int .i64 4, .int .i64 4] W fun e w' => ∃ er, e = .returned (.tuple #[.int .i64 (be4 l 4), .int .i64 er]) ∧ W = w') := hide_ (fun W hW => rnget4 _ l 4 W (hB.later hW) (by omega))
  clear hc hib
  rw [hbe] at hc2
  obtain ⟨ao3, -, sl3, b3⟩ := bytes_slice hB 8 h
  have sl3 : ∀ wx, (Instr.slice 25 (.slice (some ⟨bq, off, none⟩) l.length cap) (some (.int .i64 8)) none none).run Tryz.prog wx = .ok (.slice ao3 (l.length - 8) (cap - 8)) wx := sl3
  have qd := hide_ (fun W (hW : Below w.heap.size w W) => hP _ W (b3.later (w' := W) hW))
  clear hB h hz hbe hP b3
  generalize be4 l 4 = y2 at *
  generalize l.getD 0 0 = z0 at *
  generalize l.getD 1 0 = z1 at *
  generalize l.getD 2 0 = z2 at *
  have hw1 : IntKind.i64.wrap z0 = z0 := by rw [IntKind.wrap_i64]; omega
  have hw2 : IntKind.i64.wrap z1 = z1 := by rw [IntKind.wrap_i64]; omega
  have hw3 : IntKind.i64.wrap z2 = z2 := by rw [IntKind.wrap_i64]; omega
  have hw4 : IntKind.i64.wrap (z0 * 256) = z0 * 256 := by rw [IntKind.wrap_i64]; omega
  have hw5 : IntKind.i64.wrap (z0 * 256 + z1) = z0 * 256 + z1 := by rw [IntKind.wrap_i64]; omega
  go_enter Tryz.func32, Tryz.ntmps32
  go_upto_region 3 with fail
  refine wp_region_held_drew (S := (fun w' => Below w.heap.size w w')) (by kernel_rfl) (B0.out.drew) (fun hHeld => ?_)
  have hD : ((w.alloc (.cells #[.int .i64 0, .int .i64 0, .int .i64 0, .slice none 0 0] 50)).alloc (.cells #[.bool false, .int .i64 0, .int .i64 0] 44)).drew.heap.size = w.heap.size + 1 + 1 := by show (World.alloc _ _).heap.size = _; simp
  have RD : AB ((w.alloc (.cells #[.int .i64 0, .int .i64 0, .int .i64 0, .slice none 0 0] 50)).alloc (.cells #[.bool false, .int .i64 0, .int .i64 0] 44)).drew w.heap.size 50 [.int .i64 0, .int .i64 0, .int .i64 0, .slice none 0 0] := R0.out
  have FD : AB ((w.alloc (.cells #[.int .i64 0, .int .i64 0, .int .i64 0, .slice none 0 0] 50)).alloc (.cells #[.bool false, .int .i64 0, .int .i64 0] 44)).drew (w.heap.size + 1) 44 [.bool false, .int .i64 0, .int .i64 0] := F0.out
  generalize ((w.alloc (.cells #[.int .i64 0, .int .i64 0, .int .i64 0, .slice none 0 0] 50)).alloc (.cells #[.bool false, .int .i64 0, .int .i64 0] 44)).drew = D at *
  have hgD : w.heap.size ≤ D.heap.size := by omega
  have hKD := hide_ hHeld
  obtain ⟨r0, r1, r2, r3, r4, r5, r6, r7⟩ := (AB.at0 D 50 [.int .i64 0, .int .i64 0, .int .i64 0, .slice none 0 0]).k4
  refine takeR (i := 0) (v := ?_) rfl (by kernel_rfl) (by kernel_rfl) (by kernel_rfl) (some 18) rfl (Or.inl ⟨by rfl, ?_⟩) (fun _ _ _ h => h) (by assumption) ?_
  rotate_left
  · intro w hSw; (try dsimp only at hSw); go_simp; (try with_reducible rfl)
  simp only [Act.put, List.setIfInBounds_toArray, List.set_cons_zero, List.set_cons_succ]
  refine takeR (i := 1) (v := ?_) rfl (by kernel_rfl) (by kernel_rfl) (by kernel_rfl) (some 19) rfl (Or.inl ⟨by rfl, ?_⟩) (fun _ _ _ h => h) (by assumption) ?_
  rotate_left
  · intro w hSw; (try dsimp only at hSw); go_simp; (try with_reducible rfl)
  simp only [Act.put, List.setIfInBounds_toArray, List.set_cons_zero, List.set_cons_succ]
  refine takeR (i := 2) (v := ?_) rfl (by kernel_rfl) (by kernel_rfl) (by kernel_rfl) (some 20) rfl (Or.inl ⟨by rfl, ?_⟩) (fun _ _ _ h => h) (by assumption) ?_
  rotate_left
  · intro w hSw; (try dsimp only at hSw); have cc := HC.out _ hSw; go_simp; (try with_reducible rfl)
  simp only [Act.put, List.setIfInBounds_toArray, List.set_cons_zero, List.set_cons_succ]
  refine takeR (i := 3) (v := ?_) rfl (by kernel_rfl) (by kernel_rfl) (by kernel_rfl) (some 21) rfl (Or.inl ⟨by rfl, ?_⟩) (fun _ _ _ h => h) (by assumption) ?_
  rotate_left
  · intro w hSw; (try dsimp only at hSw); go_simp; (try with_reducible rfl)
  simp only [Act.put, List.setIfInBounds_toArray, List.set_cons_zero, List.set_cons_succ]
  refine takeR (i := 4) (v := ?_) rfl (by kernel_rfl) (by kernel_rfl) (by kernel_rfl) (some 22) rfl (Or.inl ⟨by rfl, ?_⟩) (fun _ _ _ h => h) (by assumption) ?_
  rotate_left
  · intro w hSw; (try dsimp only at hSw); go_simp; (try with_reducible rfl)
  simp only [Act.put, List.setIfInBounds_toArray, List.set_cons_zero, List.set_cons_succ]
  refine takeR (i := 5) (v := ?_) rfl (by kernel_rfl) (by kernel_rfl) (by kernel_rfl) (some 23) rfl (Or.inl ⟨by rfl, ?_⟩) (fun _ _ _ h => h) (by assumption) ?_
  rotate_left
  · intro w hSw; (try dsimp only at hSw); go_simp; (try with_reducible rfl)
  simp only [Act.put, List.setIfInBounds_toArray, List.set_cons_zero, List.set_cons_succ]
  refine takeR (i := 6) (v := ?_) rfl (by kernel_rfl) (by kernel_rfl) (by kernel_rfl) (some 24) rfl (Or.inl ⟨by rfl, ?_⟩) (fun _ _ _ h => h) (by assumption) ?_
  rotate_left
  · intro w hSw; (try dsimp only at hSw); go_simp; (try with_reducible rfl)
  simp only [Act.put, List.setIfInBounds_toArray, List.set_cons_zero, List.set_cons_succ]
  refine takeR (i := 7) (v := ?_) rfl (by kernel_rfl) (by kernel_rfl) (by kernel_rfl) (some 25) rfl (Or.inl ⟨by rfl, ?_⟩) (fun _ _ _ h => h) (by assumption) ?_
  rotate_left
  · intro w hSw; (try dsimp only at hSw); have cc := HC1.out _ hSw; go_simp; (try with_reducible rfl)
  simp only [Act.put, List.setIfInBounds_toArray, List.set_cons_zero, List.set_cons_succ]
  refine takeR (i := 8) (v := ?_) rfl (by kernel_rfl) (by kernel_rfl) (by kernel_rfl) (some 26) rfl (Or.inl ⟨by rfl, ?_⟩) (fun _ _ _ h => h) (by assumption) ?_
  rotate_left
  · intro w hSw; (try dsimp only at hSw); go_simp; (try with_reducible rfl)
  simp only [Act.put, List.setIfInBounds_toArray, List.set_cons_zero, List.set_cons_succ]
  refine takeR (i := 9) (v := ?_) rfl (by kernel_rfl) (by kernel_rfl) (by kernel_rfl) (some 27) rfl (Or.inl ⟨by rfl, ?_⟩) (fun _ _ _ h => h) (by assumption) ?_
  rotate_left
  · intro w hSw; (try dsimp only at hSw); go_simp; (try with_reducible rfl)
  simp only [Act.put, List.setIfInBounds_toArray, List.set_cons_zero, List.set_cons_succ]
  refine takeR (i := 10) (v := ?_) rfl (by kernel_rfl) (by kernel_rfl) (by kernel_rfl) (some 28) rfl (Or.inl ⟨by rfl, ?_⟩) (fun _ _ _ h => h) (by assumption) ?_
  rotate_left
  · intro w hSw; (try dsimp only at hSw); go_simp; (try with_reducible rfl)
  simp only [Act.put, List.setIfInBounds_toArray, List.set_cons_zero, List.set_cons_succ]
  refine takeR (i := 11) (v := ?_) rfl (by kernel_rfl) (by kernel_rfl) (by kernel_rfl) (some 29) rfl (Or.inl ⟨by rfl, ?_⟩) (fun _ _ _ h => h) (by assumption) ?_
  rotate_left
  · intro w hSw; (try dsimp only at hSw); go_simp; (try with_reducible rfl)
  simp only [Act.put, List.setIfInBounds_toArray, List.set_cons_zero, List.set_cons_succ]
  refine takeR (i := 12) (v := ?_) rfl (by kernel_rfl) (by kernel_rfl) (by kernel_rfl) (some 30) rfl (Or.inl ⟨by rfl, ?_⟩) (fun _ _ _ h => h) (by assumption) ?_
  rotate_left
  · intro w hSw; (try dsimp only at hSw); have cc := HC2.out _ hSw; go_simp; (try with_reducible rfl)
  simp only [Act.put, List.setIfInBounds_toArray, List.set_cons_zero, List.set_cons_succ]
  refine takeR (i := 13) (v := ?_) rfl (by kernel_rfl) (by kernel_rfl) (by kernel_rfl) (some 31) rfl (Or.inl ⟨by rfl, ?_⟩) (fun _ _ _ h => h) (by assumption) ?_
  rotate_left
  · intro w hSw; (try dsimp only at hSw); go_simp; (try with_reducible rfl)
  simp only [Act.put, List.setIfInBounds_toArray, List.set_cons_zero, List.set_cons_succ]
  refine takeR (i := 14) (v := ?_) rfl (by kernel_rfl) (by kernel_rfl) (by kernel_rfl) (some 32) rfl (Or.inl ⟨by rfl, ?_⟩) (fun _ _ _ h => h) (by assumption) ?_
  rotate_left
  · intro w hSw; (try dsimp only at hSw); go_simp; (try with_reducible rfl)
  simp only [Act.put, List.setIfInBounds_toArray, List.set_cons_zero, List.set_cons_succ]
  refine wpAnyH_ready (rs := [15]) (by kernel_rfl) (by simp) ?_
  refine AllReadyH.cons rfl (fun K hK => ?_) (AllReadyH.nil)
  go_simp
  refine hK.out _ _ (hHeld.alloc hgD _) (fun hHeld => ?_)
  clear hK K
  try simp only [Act.put, List.setIfInBounds_toArray, List.set_cons_zero, List.set_cons_succ]
  refine wpAnyH_ready (rs := [16]) (by kernel_rfl) (by simp) ?_
  refine AllReadyH.cons rfl (fun K hK => ?_) (AllReadyH.nil)
  go_simp
  refine hK.out _ _ (hKD.out.alloc hgD _) (fun hHeld => ?_)
  clear hK K
  try simp only [Act.put, List.setIfInBounds_toArray, List.set_cons_zero, List.set_cons_succ]
  refine wpAnyH_done (by kernel_rfl) ?_ _
  have R3 := hide_ (RD.alloc (.cells #[.int .i64 (z0 * 256 + z1), .int .i64 z2, .int .i64 0, .slice none 0 0] 50))
  have F3 := hide_ (FD.alloc (.cells #[.int .i64 (z0 * 256 + z1), .int .i64 z2, .int .i64 0, .slice none 0 0] 50))
  have C3 := hide_ (AB.at0 D 50 [.int .i64 (z0 * 256 + z1), .int .i64 z2, .int .i64 0, .slice none 0 0])
  have k3 := hide_ hHeld
  clear r0 r1 r2 r3 r4 r5 r6 r7 RD FD hHeld hKD
  generalize D.alloc (.cells #[.int .i64 (z0 * 256 + z1), .int .i64 z2, .int .i64 0, .slice none 0 0] 50) = X3 at *
  generalize D.heap.size = gC at *
  subst hD
  obtain ⟨a0, a1, a2, a3', a4, a5, a6, a7⟩ := C3.out.k4
  go_upto_region 5 with (go_at_call 55; refine (q4.out _ k3.out).mono ?_; rintro e w4 ⟨er4, rfl, rfl⟩)
  have R4 : Hid (AB (X3.setCell ⟨w.heap.size + 1 + 1, 2, none⟩ (.int .i64 y2)) w.heap.size 50 [.int .i64 0, .int .i64 0, .int .i64 0, .slice none 0 0]) := hide_ (R3.out.far _ (by omega))
  have F4 : Hid (AB (X3.setCell ⟨w.heap.size + 1 + 1, 2, none⟩ (.int .i64 y2)) (w.heap.size + 1) 44 [.bool false, .int .i64 0, .int .i64 0]) := hide_ (F3.out.far _ (by omega))
  have C4 : Hid (AB (X3.setCell ⟨w.heap.size + 1 + 1, 2, none⟩ (.int .i64 y2)) (w.heap.size + 1 + 1) 50 [.int .i64 (z0 * 256 + z1), .int .i64 z2, .int .i64 y2, .slice none 0 0]) := hide_ (C3.out.set (j := 2) _)
  have k4 : Hid (Below w.heap.size w (X3.setCell ⟨w.heap.size + 1 + 1, 2, none⟩ (.int .i64 y2))) := hide_ (k3.out.setCell (p := ⟨w.heap.size + 1 + 1, 2, none⟩) (by simp; omega) _)
  clear a0 a1 a2 a3' a4 a5 a6 a7 R3 F3 C3 k3 q4 HC HC1 HC2
  generalize X3.setCell _ _ = X4 at *
  obtain ⟨c0, c1, c2, c3, c4, c5, c6, c7⟩ := C4.out.k4
  go_upto_region 11 with (go_at_call 71; refine (qd.out _ k4.out).mono ?_; rintro e w5 ⟨rfl, b5⟩; obtain ⟨m0, m1, m2, m3, m4, m5⟩ := (AB.at0 w5 44 [.bool false, .int .i64 0, .int .i64 0]).three)
  have R5 := hide_ ((R4.out.later b5).alloc (.cells #[.bool true, .int .i64 c, .int .i64 d] 44))
  have F5 := hide_ ((F4.out.later b5).alloc (.cells #[.bool true, .int .i64 c, .int .i64 d] 44))
  have k5 : Hid (Below w.heap.size w (w5.alloc (.cells #[.bool true, .int .i64 c, .int .i64 d] 44))) := hide_ (k4.out.trans ((b5.trans ((below1 w5 _).mono b5.size)).mono k4.out.size))
  obtain ⟨f0, f1, f2, -⟩ := (AB.at0 w5 44 [.bool true, .int .i64 c, .int .i64 d]).three
  have hgM : w.heap.size + 2 ≤ w5.heap.size := by have := F4.out.lt; have := b5.size; omega
  generalize (w5.alloc (.cells #[.bool true, .int .i64 c, .int .i64 d] 44)) = X at *
  generalize w5.heap.size = gM at *
  have RD : AB X.drew w.heap.size 50 [.int .i64 0, .int .i64 0, .int .i64 0, .slice none 0 0] := R5.out
  have FD : AB X.drew (w.heap.size + 1) 44 [.bool false, .int .i64 0, .int .i64 0] := F5.out
  obtain ⟨r0, r1, r2, r3, r4, r5, r6, r7⟩ := RD.k4
  obtain ⟨s0, s1, s2, s3, s4, s5⟩ := (FD.fark4 (f := w.heap.size) (by omega) (.int .i64 0) (.int .i64 0) (.int .i64 0) (.slice none 0 0)).three
  obtain ⟨u0, u1, u2, u3, -⟩ := ((RD.setk4 (.int .i64 0) (.int .i64 0) (.int .i64 0) (.slice none 0 0)).farx3 (f := (w.heap.size + 1)) (by omega) (.bool true) (.int .i64 c) (.int .i64 d)).k4
  obtain ⟨u4, u5, u6, -⟩ := ((FD.fark4 (f := w.heap.size) (by omega) (.int .i64 0) (.int .i64 0) (.int .i64 0) (.slice none 0 0)).set3 (.bool true) (.int .i64 c) (.int .i64 d)).three
  have bb := below_set3 (g := (w.heap.size + 1)) (below_setk4 (g := w.heap.size) k5.out.drew (Nat.le_refl _) (.int .i64 0) (.int .i64 0) (.int .i64 0) (.slice none 0 0)) (by omega) (.bool true) (.int .i64 c) (.int .i64 d)
  clear RD FD bb
  refine wp_region_held_drew (S := (fun w' => w'.cell? ⟨gM, 0, none⟩ = some (.bool true) ∧ w'.cell? ⟨gM, 1, none⟩ = some (.int .i64 c) ∧ w'.cell? ⟨gM, 2, none⟩ = some (.int .i64 d) ∧ Below w.heap.size w w')) (by kernel_rfl) (⟨f0, f1, f2, k5.out.drew⟩) (fun hHeld => ?_)
  generalize X.drew = DD at *
  refine takeR (i := 0) (v := ?_) rfl (by kernel_rfl) (by kernel_rfl) (by kernel_rfl) (some 57) rfl (Or.inl ⟨by rfl, ?_⟩) (fun _ _ _ h => h) (by assumption) ?_
  rotate_left
  · intro w hSw; (try dsimp only at hSw); go_simp; (try with_reducible rfl)
  simp only [Act.put, List.setIfInBounds_toArray, List.set_cons_zero, List.set_cons_succ]
  refine takeR (i := 1) (v := ?_) rfl (by kernel_rfl) (by kernel_rfl) (by kernel_rfl) (some 58) rfl (Or.inl ⟨by rfl, ?_⟩) (fun _ _ _ h => h) (by assumption) ?_
  rotate_left
  · intro w hSw; (try dsimp only at hSw); go_simp; (try with_reducible rfl)
  simp only [Act.put, List.setIfInBounds_toArray, List.set_cons_zero, List.set_cons_succ]
  refine wpAnyH_ready (rs := [2]) (by kernel_rfl) (by simp) ?_
  refine AllReadyH.cons rfl (fun K hK => ?_) (AllReadyH.nil)
  go_simp
  refine hK.out _ _ (⟨(cell_fillK (by dsimp only; omega) _ _ _ _).trans hHeld.1, (cell_fillK (by dsimp only; omega) _ _ _ _).trans hHeld.2.1, (cell_fillK (by dsimp only; omega) _ _ _ _).trans hHeld.2.2.1, below_setk4 (g := w.heap.size) hHeld.2.2.2 (Nat.le_refl _) _ _ _ _⟩) (fun hHeld => ?_)
  clear hK K
  try simp only [Act.put, List.setIfInBounds_toArray, List.set_cons_zero, List.set_cons_succ]
  refine wpAnyH_ready (rs := [3]) (by kernel_rfl) (by simp) ?_
  refine AllReadyH.cons rfl (fun K hK => ?_) (AllReadyH.nil)
  go_simp
  refine hK.out _ _ (kW3_3 hHeld (by omega) (by dsimp only; omega) (by dsimp only; omega) (by dsimp only; omega)) (fun hHeld => ?_)
  clear hK K
  try simp only [Act.put, List.setIfInBounds_toArray, List.set_cons_zero, List.set_cons_succ]
  refine wpAnyH_done (by kernel_rfl) ?_ _
  go_wp2_with fail
  exact bodyPost_ret (v := .tuple #[.agg #[.int .i64 0, .int .i64 0, .int .i64 0, .slice none 0 0], .agg #[.bool true, .int .i64 c, .int .i64 d]]) (by simp [results, Tryz.results32, go_sem, u0, u1, u2, u3, u4, u5, u6]) rfl ⟨rfl, hHeld.2.2.2⟩

set_option maxRecDepth 100000 in
set_option maxHeartbeats 8000000 in
theorem rgd_ok (ao : Option Addr) (cap : Nat) (l : List Int) (K : List BK) (nK : Nat) (w : World) (hB : Bytes w (.slice ao l.length cap) l) (h : 8 ≤ l.length) (hz : l.getD 3 0 = 0) (hc2 : ¬ 2 < be2 l 0) (hk2 : ¬ 3 < l.getD 2 0) (hP : ∀ (v : Value) (W : World), Bytes W v (l.drop 8) → Calls Tryz.prog 71 #[v] W fun e w' => (∃ ka kc, e = .returned (.tuple #[.slice ka nK kc, .agg #[.bool false, .int .i64 0, .int .i64 0]]) ∧ ∃ P : List PB, P.map (·.1) = K ∧ BRow w' (W.heap.size + 1) (.slice ka nK kc) P) ∧ Below W.heap.size W w') :
    Calls Tryz.prog 32 #[.slice ao l.length cap] w fun e w' => (∃ ka kc, e = .returned (.tuple #[.agg #[.int .i64 (be2 l 0), .int .i64 (l.getD 2 0), .int .i64 (be4 l 4), .slice ka nK kc], .agg #[.bool false, .int .i64 0, .int .i64 0]]) ∧ BuckAt w' (.slice ka nK kc) K) ∧ Below w.heap.size w w' := by
  have R0 := hide_ ((AB.at0 w 50 [.int .i64 0, .int .i64 0, .int .i64 0, .slice none 0 0]).alloc (.cells #[.bool false, .int .i64 0, .int .i64 0] 44))
  have F0 := hide_ (AB.at1 w (.cells #[.int .i64 0, .int .i64 0, .int .i64 0, .slice none 0 0] 50) 44 [.bool false, .int .i64 0, .int .i64 0])
  have B0 := hide_ (below2 w (.cells #[.int .i64 0, .int .i64 0, .int .i64 0, .slice none 0 0] 50) (.cells #[.bool false, .int .i64 0, .int .i64 0] 44))
  have hm : l.length ≤ 9223372036854775807 := by obtain ⟨_, _, h1⟩ := Bytes.at hB; unfold maxLen at *; omega
  have h' : ¬ (l.length : Int) < 8 := by omega
  obtain ⟨bq, off, rfl, hib, hc⟩ := four_getD hB (by omega)
  have i0 : (0 : Int) < (l.length : Int) := by omega
  have i1 : (1 : Int) < (l.length : Int) := by omega
  have i2 : (2 : Int) < (l.length : Int) := by omega
  have i3 : (3 : Int) < (l.length : Int) := by omega
  have j0 : 0 < l.length := by omega
  have j1 : 1 < l.length := by omega
  have j2 : 2 < l.length := by omega
  have j3 : 3 < l.length := by omega
  have hbe : be2 l 0 = l.getD 0 0 * 256 + l.getD 1 0 := if_pos (by omega)
  obtain ⟨n0, m0⟩ := isB_getD hib 0
  obtain ⟨n1, m1⟩ := isB_getD hib 1
  obtain ⟨n2, m2⟩ := isB_getD hib 2
  obtain ⟨-, -, -, a3⟩ := hc _ B0.out
  rw [hz] at a3
  have HC := hide_ (fun W hW => (hc W hW).1)
  have HC1 := hide_ (fun W hW => (hc W hW).2.1)
  have HC2 := hide_ (fun W hW => (hc W hW).2.2.1)
  have q4 : Hid (∀ W, Below w.heap.size w W → Calls Tryz.prog 55 #[.slice (some ⟨bq, off, none⟩) l.length cap, .int .i64 4, .int .i64 4] W fun e w' => ∃ er, e = .returned (.tuple #[.int .i64 (be4 l 4), .int .i64 er]) ∧ W = w') := hide_ (fun W hW => rnget4 _ l 4 W (hB.later hW) (by omega))
  clear hc hib
  rw [hbe] at hc2 ⊢
  obtain ⟨ao3, -, sl3, b3⟩ := bytes_slice hB 8 h
  have sl3 : ∀ wx, (Instr.slice 25 (.slice (some ⟨bq, off, none⟩) l.length cap) (some (.int .i64 8)) none none).run Tryz.prog wx = .ok (.slice ao3 (l.length - 8) (cap - 8)) wx := sl3
  have qd := hide_ (fun W (hW : Below w.heap.size w W) => hP _ W (b3.later (w' := W) hW))
  clear hB h hz hbe hP b3
  generalize be4 l 4 = y2 at *
  generalize l.getD 0 0 = z0 at *
  generalize l.getD 1 0 = z1 at *
  generalize l.getD 2 0 = z2 at *
  have hw1 : IntKind.i64.wrap z0 = z0 := by rw [IntKind.wrap_i64]; omega
  have hw2 : IntKind.i64.wrap z1 = z1 := by rw [IntKind.wrap_i64]; omega
  have hw3 : IntKind.i64.wrap z2 = z2 := by rw [IntKind.wrap_i64]; omega
  have hw4 : IntKind.i64.wrap (z0 * 256) = z0 * 256 := by rw [IntKind.wrap_i64]; omega
  have hw5 : IntKind.i64.wrap (z0 * 256 + z1) = z0 * 256 + z1 := by rw [IntKind.wrap_i64]; omega
  go_enter Tryz.func32, Tryz.ntmps32
  go_upto_region 3 with fail
  refine wp_region_held_drew (S := (fun w' => Below w.heap.size w w')) (by kernel_rfl) (B0.out.drew) (fun hHeld => ?_)
  have hD : ((w.alloc (.cells #[.int .i64 0, .int .i64 0, .int .i64 0, .slice none 0 0] 50)).alloc (.cells #[.bool false, .int .i64 0, .int .i64 0] 44)).drew.heap.size = w.heap.size + 1 + 1 := by show (World.alloc _ _).heap.size = _; simp
  have RD : AB ((w.alloc (.cells #[.int .i64 0, .int .i64 0, .int .i64 0, .slice none 0 0] 50)).alloc (.cells #[.bool false, .int .i64 0, .int .i64 0] 44)).drew w.heap.size 50 [.int .i64 0, .int .i64 0, .int .i64 0, .slice none 0 0] := R0.out
  have FD : AB ((w.alloc (.cells #[.int .i64 0, .int .i64 0, .int .i64 0, .slice none 0 0] 50)).alloc (.cells #[.bool false, .int .i64 0, .int .i64 0] 44)).drew (w.heap.size + 1) 44 [.bool false, .int .i64 0, .int .i64 0] := F0.out
  generalize ((w.alloc (.cells #[.int .i64 0, .int .i64 0, .int .i64 0, .slice none 0 0] 50)).alloc (.cells #[.bool false, .int .i64 0, .int .i64 0] 44)).drew = D at *
  have hgD : w.heap.size ≤ D.heap.size := by omega
  have hKD := hide_ hHeld
  obtain ⟨r0, r1, r2, r3, r4, r5, r6, r7⟩ := (AB.at0 D 50 [.int .i64 0, .int .i64 0, .int .i64 0, .slice none 0 0]).k4
  refine takeR (i := 0) (v := ?_) rfl (by kernel_rfl) (by kernel_rfl) (by kernel_rfl) (some 18) rfl (Or.inl ⟨by rfl, ?_⟩) (fun _ _ _ h => h) (by assumption) ?_
  rotate_left
  · intro w hSw; (try dsimp only at hSw); go_simp; (try with_reducible rfl)
  simp only [Act.put, List.setIfInBounds_toArray, List.set_cons_zero, List.set_cons_succ]
  refine takeR (i := 1) (v := ?_) rfl (by kernel_rfl) (by kernel_rfl) (by kernel_rfl) (some 19) rfl (Or.inl ⟨by rfl, ?_⟩) (fun _ _ _ h => h) (by assumption) ?_
  rotate_left
  · intro w hSw; (try dsimp only at hSw); go_simp; (try with_reducible rfl)
  simp only [Act.put, List.setIfInBounds_toArray, List.set_cons_zero, List.set_cons_succ]
  refine takeR (i := 2) (v := ?_) rfl (by kernel_rfl) (by kernel_rfl) (by kernel_rfl) (some 20) rfl (Or.inl ⟨by rfl, ?_⟩) (fun _ _ _ h => h) (by assumption) ?_
  rotate_left
  · intro w hSw; (try dsimp only at hSw); have cc := HC.out _ hSw; go_simp; (try with_reducible rfl)
  simp only [Act.put, List.setIfInBounds_toArray, List.set_cons_zero, List.set_cons_succ]
  refine takeR (i := 3) (v := ?_) rfl (by kernel_rfl) (by kernel_rfl) (by kernel_rfl) (some 21) rfl (Or.inl ⟨by rfl, ?_⟩) (fun _ _ _ h => h) (by assumption) ?_
  rotate_left
  · intro w hSw; (try dsimp only at hSw); go_simp; (try with_reducible rfl)
  simp only [Act.put, List.setIfInBounds_toArray, List.set_cons_zero, List.set_cons_succ]
  refine takeR (i := 4) (v := ?_) rfl (by kernel_rfl) (by kernel_rfl) (by kernel_rfl) (some 22) rfl (Or.inl ⟨by rfl, ?_⟩) (fun _ _ _ h => h) (by assumption) ?_
  rotate_left
  · intro w hSw; (try dsimp only at hSw); go_simp; (try with_reducible rfl)
  simp only [Act.put, List.setIfInBounds_toArray, List.set_cons_zero, List.set_cons_succ]
  refine takeR (i := 5) (v := ?_) rfl (by kernel_rfl) (by kernel_rfl) (by kernel_rfl) (some 23) rfl (Or.inl ⟨by rfl, ?_⟩) (fun _ _ _ h => h) (by assumption) ?_
  rotate_left
  · intro w hSw; (try dsimp only at hSw); go_simp; (try with_reducible rfl)
  simp only [Act.put, List.setIfInBounds_toArray, List.set_cons_zero, List.set_cons_succ]
  refine takeR (i := 6) (v := ?_) rfl (by kernel_rfl) (by kernel_rfl) (by kernel_rfl) (some 24) rfl (Or.inl ⟨by rfl, ?_⟩) (fun _ _ _ h => h) (by assumption) ?_
  rotate_left
  · intro w hSw; (try dsimp only at hSw); go_simp; (try with_reducible rfl)
  simp only [Act.put, List.setIfInBounds_toArray, List.set_cons_zero, List.set_cons_succ]
  refine takeR (i := 7) (v := ?_) rfl (by kernel_rfl) (by kernel_rfl) (by kernel_rfl) (some 25) rfl (Or.inl ⟨by rfl, ?_⟩) (fun _ _ _ h => h) (by assumption) ?_
  rotate_left
  · intro w hSw; (try dsimp only at hSw); have cc := HC1.out _ hSw; go_simp; (try with_reducible rfl)
  simp only [Act.put, List.setIfInBounds_toArray, List.set_cons_zero, List.set_cons_succ]
  refine takeR (i := 8) (v := ?_) rfl (by kernel_rfl) (by kernel_rfl) (by kernel_rfl) (some 26) rfl (Or.inl ⟨by rfl, ?_⟩) (fun _ _ _ h => h) (by assumption) ?_
  rotate_left
  · intro w hSw; (try dsimp only at hSw); go_simp; (try with_reducible rfl)
  simp only [Act.put, List.setIfInBounds_toArray, List.set_cons_zero, List.set_cons_succ]
  refine takeR (i := 9) (v := ?_) rfl (by kernel_rfl) (by kernel_rfl) (by kernel_rfl) (some 27) rfl (Or.inl ⟨by rfl, ?_⟩) (fun _ _ _ h => h) (by assumption) ?_
  rotate_left
  · intro w hSw; (try dsimp only at hSw); go_simp; (try with_reducible rfl)
  simp only [Act.put, List.setIfInBounds_toArray, List.set_cons_zero, List.set_cons_succ]
  refine takeR (i := 10) (v := ?_) rfl (by kernel_rfl) (by kernel_rfl) (by kernel_rfl) (some 28) rfl (Or.inl ⟨by rfl, ?_⟩) (fun _ _ _ h => h) (by assumption) ?_
  rotate_left
  · intro w hSw; (try dsimp only at hSw); go_simp; (try with_reducible rfl)
  simp only [Act.put, List.setIfInBounds_toArray, List.set_cons_zero, List.set_cons_succ]
  refine takeR (i := 11) (v := ?_) rfl (by kernel_rfl) (by kernel_rfl) (by kernel_rfl) (some 29) rfl (Or.inl ⟨by rfl, ?_⟩) (fun _ _ _ h => h) (by assumption) ?_
  rotate_left
  · intro w hSw; (try dsimp only at hSw); go_simp; (try with_reducible rfl)
  simp only [Act.put, List.setIfInBounds_toArray, List.set_cons_zero, List.set_cons_succ]
  refine takeR (i := 12) (v := ?_) rfl (by kernel_rfl) (by kernel_rfl) (by kernel_rfl) (some 30) rfl (Or.inl ⟨by rfl, ?_⟩) (fun _ _ _ h => h) (by assumption) ?_
  rotate_left
  · intro w hSw; (try dsimp only at hSw); have cc := HC2.out _ hSw; go_simp; (try with_reducible rfl)
  simp only [Act.put, List.setIfInBounds_toArray, List.set_cons_zero, List.set_cons_succ]
  refine takeR (i := 13) (v := ?_) rfl (by kernel_rfl) (by kernel_rfl) (by kernel_rfl) (some 31) rfl (Or.inl ⟨by rfl, ?_⟩) (fun _ _ _ h => h) (by assumption) ?_
  rotate_left
  · intro w hSw; (try dsimp only at hSw); go_simp; (try with_reducible rfl)
  simp only [Act.put, List.setIfInBounds_toArray, List.set_cons_zero, List.set_cons_succ]
  refine takeR (i := 14) (v := ?_) rfl (by kernel_rfl) (by kernel_rfl) (by kernel_rfl) (some 32) rfl (Or.inl ⟨by rfl, ?_⟩) (fun _ _ _ h => h) (by assumption) ?_
  rotate_left
  · intro w hSw; (try dsimp only at hSw); go_simp; (try with_reducible rfl)
  simp only [Act.put, List.setIfInBounds_toArray, List.set_cons_zero, List.set_cons_succ]
  refine wpAnyH_ready (rs := [15]) (by kernel_rfl) (by simp) ?_
  refine AllReadyH.cons rfl (fun K hK => ?_) (AllReadyH.nil)
  go_simp
  refine hK.out _ _ (hHeld.alloc hgD _) (fun hHeld => ?_)
  clear hK K
  try simp only [Act.put, List.setIfInBounds_toArray, List.set_cons_zero, List.set_cons_succ]
  refine wpAnyH_ready (rs := [16]) (by kernel_rfl) (by simp) ?_
  refine AllReadyH.cons rfl (fun K hK => ?_) (AllReadyH.nil)
  go_simp
  refine hK.out _ _ (hKD.out.alloc hgD _) (fun hHeld => ?_)
  clear hK K
  try simp only [Act.put, List.setIfInBounds_toArray, List.set_cons_zero, List.set_cons_succ]
  refine wpAnyH_done (by kernel_rfl) ?_ _
  have R3 := hide_ (RD.alloc (.cells #[.int .i64 (z0 * 256 + z1), .int .i64 z2, .int .i64 0, .slice none 0 0] 50))
  have F3 := hide_ (FD.alloc (.cells #[.int .i64 (z0 * 256 + z1), .int .i64 z2, .int .i64 0, .slice none 0 0] 50))
  have C3 := hide_ (AB.at0 D 50 [.int .i64 (z0 * 256 + z1), .int .i64 z2, .int .i64 0, .slice none 0 0])
  have k3 := hide_ hHeld
  clear r0 r1 r2 r3 r4 r5 r6 r7 RD FD hHeld hKD
  generalize D.alloc (.cells #[.int .i64 (z0 * 256 + z1), .int .i64 z2, .int .i64 0, .slice none 0 0] 50) = X3 at *
  generalize D.heap.size = gC at *
  subst hD
  obtain ⟨a0, a1, a2, a3', a4, a5, a6, a7⟩ := C3.out.k4
  go_upto_region 5 with (go_at_call 55; refine (q4.out _ k3.out).mono ?_; rintro e w4 ⟨er4, rfl, rfl⟩)
  have R4 : Hid (AB (X3.setCell ⟨w.heap.size + 1 + 1, 2, none⟩ (.int .i64 y2)) w.heap.size 50 [.int .i64 0, .int .i64 0, .int .i64 0, .slice none 0 0]) := hide_ (R3.out.far _ (by omega))
  have F4 : Hid (AB (X3.setCell ⟨w.heap.size + 1 + 1, 2, none⟩ (.int .i64 y2)) (w.heap.size + 1) 44 [.bool false, .int .i64 0, .int .i64 0]) := hide_ (F3.out.far _ (by omega))
  have C4 : Hid (AB (X3.setCell ⟨w.heap.size + 1 + 1, 2, none⟩ (.int .i64 y2)) (w.heap.size + 1 + 1) 50 [.int .i64 (z0 * 256 + z1), .int .i64 z2, .int .i64 y2, .slice none 0 0]) := hide_ (C3.out.set (j := 2) _)
  have k4 : Hid (Below w.heap.size w (X3.setCell ⟨w.heap.size + 1 + 1, 2, none⟩ (.int .i64 y2))) := hide_ (k3.out.setCell (p := ⟨w.heap.size + 1 + 1, 2, none⟩) (by simp; omega) _)
  clear a0 a1 a2 a3' a4 a5 a6 a7 R3 F3 C3 k3 q4 HC HC1 HC2
  generalize X3.setCell _ _ = X4 at *
  obtain ⟨c0, c1, c2, c3, c4, c5, c6, c7⟩ := C4.out.k4
  go_upto_region 12 with (go_at_call 71; refine (qd.out _ k4.out).mono ?_; rintro e w5 ⟨⟨ka, kc, rfl, P, hPK, hR⟩, b5⟩; have HR5 := hide_ hR; have HPK := hide_ hPK; obtain ⟨m0, m1, m2, m3, m4, m5⟩ := (AB.at0 w5 44 [.bool false, .int .i64 0, .int .i64 0]).three)
  have R5 := hide_ ((R4.out.later b5).alloc (.cells #[.bool false, .int .i64 0, .int .i64 0] 44))
  have F5 := hide_ ((F4.out.later b5).alloc (.cells #[.bool false, .int .i64 0, .int .i64 0] 44))
  have C5 := hide_ ((C4.out.later b5).alloc (.cells #[.bool false, .int .i64 0, .int .i64 0] 44))
  have k5 : Hid (Below w.heap.size w (w5.alloc (.cells #[.bool false, .int .i64 0, .int .i64 0] 44))) := hide_ (k4.out.trans ((b5.trans ((below1 w5 _).mono b5.size)).mono k4.out.size))
  have HR6 := hide_ (HR5.out.later (below1 w5 (.cells #[.bool false, .int .i64 0, .int .i64 0] 44)))
  have hlt := C4.out.lt
  clear HR5 m0 m1 m2 m3 m4 m5 c0 c1 c2 c3 c4 c5 c6 c7
  generalize (w5.alloc (.cells #[.bool false, .int .i64 0, .int .i64 0] 44)) = X at *
  have C6 : Hid (AB (X.setCell ⟨w.heap.size + 1 + 1, 3, none⟩ (.slice ka nK kc)) (w.heap.size + 1 + 1) 50 [.int .i64 (z0 * 256 + z1), .int .i64 z2, .int .i64 y2, .slice ka nK kc]) := hide_ (C5.out.set (j := 3) _)
  have R6 : AB (X.setCell ⟨w.heap.size + 1 + 1, 3, none⟩ (.slice ka nK kc)) w.heap.size 50 [.int .i64 0, .int .i64 0, .int .i64 0, .slice none 0 0] := R5.out.far _ (by omega)
  have F6 : AB (X.setCell ⟨w.heap.size + 1 + 1, 3, none⟩ (.slice ka nK kc)) (w.heap.size + 1) 44 [.bool false, .int .i64 0, .int .i64 0] := F5.out.far _ (by omega)
  have k6 : Below w.heap.size w (X.setCell ⟨w.heap.size + 1 + 1, 3, none⟩ (.slice ka nK kc)) := k5.out.setCell (p := ⟨w.heap.size + 1 + 1, 3, none⟩) (by simp; omega) _
  obtain ⟨j0, j1, j2, j3, j4, j5, j6, j7⟩ := C5.out.k4
  obtain ⟨q0, q1, q2, q3, -⟩ := C6.out.k4
  obtain ⟨r0, r1, r2, r3, r4, r5, r6, r7⟩ := R6.k4
  obtain ⟨s0, s1, s2, s3, s4, s5⟩ := (F6.fark4 (f := w.heap.size) (by omega) (.int .i64 (z0 * 256 + z1)) (.int .i64 z2) (.int .i64 y2) (.slice ka nK kc)).three
  obtain ⟨u0, u1, u2, u3, -⟩ := ((R6.setk4 (.int .i64 (z0 * 256 + z1)) (.int .i64 z2) (.int .i64 y2) (.slice ka nK kc)).farx3 (f := (w.heap.size + 1)) (by omega) (.bool false) (.int .i64 0) (.int .i64 0)).k4
  obtain ⟨u4, u5, u6, -⟩ := ((F6.fark4 (f := w.heap.size) (by omega) (.int .i64 (z0 * 256 + z1)) (.int .i64 z2) (.int .i64 y2) (.slice ka nK kc)).set3 (.bool false) (.int .i64 0) (.int .i64 0)).three
  have bb := below_set3 (g := (w.heap.size + 1)) (below_setk4 (g := w.heap.size) k6 (Nat.le_refl _) (.int .i64 (z0 * 256 + z1)) (.int .i64 z2) (.int .i64 y2) (.slice ka nK kc)) (by omega) (.bool false) (.int .i64 0) (.int .i64 0)
  go_wp2_with fail
  refine bodyPost_ret (v := .tuple #[.agg #[.int .i64 (z0 * 256 + z1), .int .i64 z2, .int .i64 y2, .slice ka nK kc], .agg #[.bool false, .int .i64 0, .int .i64 0]]) (by simp [results, Tryz.results32, go_sem, u0, u1, u2, u3, u4, u5, u6]) rfl ⟨⟨ka, kc, rfl, ?_⟩, bb⟩
  rw [← HPK.out]
  exact ((((((((HR6.out.set (g := w.heap.size + 1 + 1) (by omega) _).set (g := w.heap.size) (by omega) _).set (g := w.heap.size) (by omega) _).set (g := w.heap.size) (by omega) _).set (g := w.heap.size) (by omega) _).set (g := w.heap.size + 1) (by omega) _).set (g := w.heap.size + 1) (by omega) _).set (g := w.heap.size + 1) (by omega) _).at_

end Go.Proofs.YthhijfphfcmniaaGreat

namespace Go.Proofs.YthhijfphfcmniaaGreat
open Go Go.RowKit
set_option linter.unusedVariables false
set_option linter.unusedSimpArgs false

theorem be2_pos {l : List Int} (hl : isB l) (i : Nat) : 0 ≤ be2 l i := by
  unfold be2
  have h1 := isB_getD hl i
  have h2 := isB_getD hl (i + 1)
  split <;> omega
theorem kR_le {z : Int} (h : kR z = true) : ¬ 3 < z := by unfold kR at h; simp at h; omega
theorem cR_le {z : Int} (h : cR z = true) : ¬ 2 < z := by unfold cR at h; simp at h; omega
theorem kR_gt {z : Int} (h0 : 0 ≤ z) (h : kR z = false) : 3 < z := by unfold kR at h; simp at h; omega
theorem cR_gt {z : Int} (h0 : 0 ≤ z) (h : cR z = false) : 2 < z := by unfold cR at h; simp at h; omega
theorem rgdec_ok (v : Value) (l : List Int) (K : List BK) (w : World) (hB : Bytes w v l) (h : gOK RAns l K) :
    Calls Tryz.prog 32 #[v] w fun e w' => (∃ ka kc, e = .returned (.tuple #[.agg #[.int .i64 (be2 l 0), .int .i64 (l.getD 2 0), .int .i64 (be4 l 4), .slice ka K.length kc], .agg #[.bool false, .int .i64 0, .int .i64 0]]) ∧ BuckAt w' (.slice ka K.length kc) K) ∧ Below w.heap.size w w' := by
  obtain ⟨⟨h1, h2⟩, h3, h4, h5, h6, h7⟩ := h
  obtain ⟨ao, cap, rfl⟩ := hB.short
  refine rgd_ok ao cap l K K.length w hB h1 h2 (cR_le h3) (kR_le h4) (fun v W hv => (rbd_okS v _ K W hv h5 h6 h7).mono ?_)
  rintro e w' ⟨⟨r, rfl, P, hP, hR⟩, hb⟩
  have hat := hR.at_
  rw [hP] at hat
  obtain ⟨s, c, rfl⟩ := buck_formU hat
  exact ⟨⟨s, c, rfl, P, hP, hR⟩, hb⟩
theorem rgdec_bad (v : Value) (l : List Int) (c d : Int) (w : World) (hB : Bytes w v l) (h : gBad RAns l c d) :
    Calls Tryz.prog 32 #[v] w fun e w' => e = .returned (.tuple #[.agg #[.int .i64 0, .int .i64 0, .int .i64 0, .slice none 0 0], .agg #[.bool true, .int .i64 c, .int .i64 d]]) ∧ Below w.heap.size w w' := by
  obtain ⟨ao, cap, rfl⟩ := hB.short
  have hib := (Bytes.at hB).2.2.1
  rcases h with ⟨h, rfl, rfl⟩ | ⟨⟨h1, h2⟩, h⟩
  · by_cases h8 : l.length < 8
    · exact rgd_short ao cap l w hB h8
    · exact rgd_nz ao cap l w hB (by omega) (fun e => h ⟨by omega, e⟩)
  · have hp := be2_pos hib 0
    have hp2 := isB_getD hib 2
    rcases h with ⟨h3, rfl, rfl⟩ | ⟨h3, h⟩
    · exact rgd_c ao cap l w hB h1 h2 (cR_gt hp h3)
    · have hc : ¬ 2 < be2 l 0 := cR_le h3
      rcases h with ⟨h4, rfl, rfl⟩ | ⟨h4, h⟩
      · exact rgd_k ao cap l w hB h1 h2 hc (kR_gt hp2.1 h4)
      · refine rgd_bad ao cap l c d w hB h1 h2 hc (kR_le h4) (fun v W hv => ?_)
        rcases h with ⟨h5, rfl, rfl⟩ | ⟨h5, h | ⟨K, h6, h7, rfl, rfl⟩⟩
        · exact rbd_big v _ W hv h5
        · exact rbd_bad v _ c d W hv h5 h
        · exact rbd_many v _ K W hv h5 h6 h7
end Go.Proofs.YthhijfphfcmniaaGreat

namespace Go.Proofs.YthhijfphfcmniaaGreat
open Go Go.RowKit
set_option linter.unusedVariables false
set_option linter.unusedSimpArgs false

set_option maxRecDepth 100000 in
set_option maxHeartbeats 8000000 in
theorem rgsame_eq (c k i : Int) (su : Option Addr) (n cu : Nat) (L : List BK) (su2 : Option Addr) (n2 cu2 : Nat) (w : World) (hL : BuckAt w (.slice su n cu) L) (hK : BuckAt w (.slice su2 n2 cu2) L) :
    Calls Tryz.prog 30 #[.agg #[.int .i64 c, .int .i64 k, .int .i64 i, .slice su n cu], .agg #[.int .i64 c, .int .i64 k, .int .i64 i, .slice su2 n2 cu2]] w fun e w' => e = .returned (.bool true) ∧ Below w.heap.size w w' := by
  have q := hide_ (fun W (hW : Below w.heap.size w W) => rblsame_eq _ _ L W (hL.later hW) (hK.later hW))
  have B0 := hide_ (below2 w (.cells #[.int .i64 c, .int .i64 k, .int .i64 i, .slice su n cu] 50) (.cells #[.int .i64 c, .int .i64 k, .int .i64 i, .slice su2 n2 cu2] 50))
  obtain ⟨o0, o1, o2, o3, -⟩ := ((AB.at0 w 50 [.int .i64 c, .int .i64 k, .int .i64 i, .slice su n cu]).alloc (.cells #[.int .i64 c, .int .i64 k, .int .i64 i, .slice su2 n2 cu2] 50)).k4
  obtain ⟨o4, o5, o6, o7, -⟩ := (AB.at1 w (.cells #[.int .i64 c, .int .i64 k, .int .i64 i, .slice su n cu] 50) 50 [.int .i64 c, .int .i64 k, .int .i64 i, .slice su2 n2 cu2]).k4
  clear hL hK
  go_enter Tryz.func30, Tryz.ntmps30
  go_wp2_with (go_at_call 65; refine (q.out _ B0.out).mono ?_; rintro e w4 ⟨rfl, b4⟩; have B4 := hide_ (B0.out.trans (b4.mono B0.out.size)); clear b4)
  go_ret
  exact ⟨by first | rfl | simp, B4.out⟩

end Go.Proofs.YthhijfphfcmniaaGreat

namespace Go.Proofs.YthhijfphfcmniaaGreat
open Go Go.RowKit
set_option linter.unusedVariables false
set_option linter.unusedSimpArgs false

theorem rsame_zero (W : World) : Calls Tryz.prog 30 #[.agg #[.int .i64 0, .int .i64 0, .int .i64 0, .slice none 0 0], .agg #[.int .i64 0, .int .i64 0, .int .i64 0, .slice none 0 0]] W fun e w' => e = .returned (.bool true) ∧ Below W.heap.size W w' := rgsame_eq 0 0 0 none 0 0 [] none 0 0 W (BuckAt.nil W) (BuckAt.nil W)
set_option maxRecDepth 100000 in
set_option maxHeartbeats 8000000 in
theorem gdl_dark (ao : Option Addr) (cap m : Nat) (w : World) (hm : m ≤ 9223372036854775807) (hz : 70000 < m) :
    Calls Tryz.prog 6 #[.slice ao m cap] w fun e w' => e = .returned (.bool true) ∧ Below w.heap.size w w' := by
  have g1 : (70000 : Int) < (m : Int) := by omega
  go_enter Tryz.func6, Tryz.ntmps6
  go_wp2_with (go_at_call 24; refine (awake18_any _).mono ?_; rintro e w9 ⟨rfl, b9⟩)
  go_ret
  exact ⟨rfl, b9⟩

set_option maxRecDepth 100000 in
set_option maxHeartbeats 8000000 in
theorem gdl_ok (c k i : Int) (K : List BK) (nK : Nat) (ao : Option Addr) (cap m : Nat) (w : World) (hm : m ≤ 70000)
    (q1 : ∀ W, Below w.heap.size w W → Calls Tryz.prog 31 #[.slice ao m cap] W fun e w' => (∃ ka kc, e = .returned (.tuple #[.agg #[.int .i64 c, .int .i64 k, .int .i64 i, .slice ka nK kc], .agg #[.bool false, .int .i64 0, .int .i64 0]]) ∧ BuckAt w' (.slice ka nK kc) K) ∧ Below W.heap.size W w')
    (q2 : ∀ W, Below w.heap.size w W → Calls Tryz.prog 32 #[.slice ao m cap] W fun e w' => (∃ ka2 kc2, e = .returned (.tuple #[.agg #[.int .i64 c, .int .i64 k, .int .i64 i, .slice ka2 nK kc2], .agg #[.bool false, .int .i64 0, .int .i64 0]]) ∧ BuckAt w' (.slice ka2 nK kc2) K) ∧ Below W.heap.size W w')
    (q3 : ∀ ka kc ka2 kc2 W, BuckAt W (.slice ka nK kc) K → BuckAt W (.slice ka2 nK kc2) K → Calls Tryz.prog 30 #[.agg #[.int .i64 c, .int .i64 k, .int .i64 i, .slice ka nK kc], .agg #[.int .i64 c, .int .i64 k, .int .i64 i, .slice ka2 nK kc2]] W fun e w' => e = .returned (.bool true) ∧ Below W.heap.size W w') :
    Calls Tryz.prog 6 #[.slice ao m cap] w fun e w' => e = .returned (.bool true) ∧ Below w.heap.size w w' := by
  have g1 : ¬ (70000 : Int) < (m : Int) := by omega
  have q1 := hide_ q1
  have q2 := hide_ q2
  have q3 := hide_ q3
  go_enter Tryz.func6, Tryz.ntmps6
  go_wp2_with (first | (go_at_call 31; refine (q1.out _ (Below.refl _ _)).mono ?_; rintro e w1 ⟨⟨ka, kc, rfl, h1⟩, b1⟩; have k1 := hide_ (b1.trans ((below2 w1 (.cells #[.int .i64 c, .int .i64 k, .int .i64 i, .slice ka nK kc] 50) (.cells #[.bool false, .int .i64 0, .int .i64 0] 44)).mono b1.size)); obtain ⟨x0, x1, x2, x3, -⟩ := ((AB.at0 w1 50 [.int .i64 c, .int .i64 k, .int .i64 i, .slice ka nK kc]).alloc (.cells #[.bool false, .int .i64 0, .int .i64 0] 44)).k4; obtain ⟨f0, f1, f2, -⟩ := (AB.at1 w1 (.cells #[.int .i64 c, .int .i64 k, .int .i64 i, .slice ka nK kc] 50) 44 [.bool false, .int .i64 0, .int .i64 0]).three; have A1 := hide_ ((AB.at0 w1 50 [.int .i64 c, .int .i64 k, .int .i64 i, .slice ka nK kc]).alloc (.cells #[.bool false, .int .i64 0, .int .i64 0] 44)); have A2 := hide_ (AB.at1 w1 (.cells #[.int .i64 c, .int .i64 k, .int .i64 i, .slice ka nK kc] 50) 44 [.bool false, .int .i64 0, .int .i64 0]); have H1 := hide_ (h1.later (below2 w1 (.cells #[.int .i64 c, .int .i64 k, .int .i64 i, .slice ka nK kc] 50) (.cells #[.bool false, .int .i64 0, .int .i64 0] 44))); clear h1; clear b1) | (go_at_call 32; refine (q2.out _ k1.out).mono ?_; rintro e w2 ⟨⟨ka2, kc2, rfl, h2⟩, b2⟩; have j2 := b2.trans ((below2 w2 (.cells #[.int .i64 c, .int .i64 k, .int .i64 i, .slice ka2 nK kc2] 50) (.cells #[.bool false, .int .i64 0, .int .i64 0] 44)).mono b2.size); have k2 := hide_ (k1.out.trans (j2.mono k1.out.size)); have A1 := hide_ (A1.out.later j2); have A2 := hide_ (A2.out.later j2); obtain ⟨x0, x1, x2, x3, -⟩ := A1.out.k4; obtain ⟨f0, f1, f2, -⟩ := A2.out.three; obtain ⟨y0, y1, y2, y3, -⟩ := ((AB.at0 w2 50 [.int .i64 c, .int .i64 k, .int .i64 i, .slice ka2 nK kc2]).alloc (.cells #[.bool false, .int .i64 0, .int .i64 0] 44)).k4; obtain ⟨u0, u1, u2, -⟩ := (AB.at1 w2 (.cells #[.int .i64 c, .int .i64 k, .int .i64 i, .slice ka2 nK kc2] 50) 44 [.bool false, .int .i64 0, .int .i64 0]).three; have H1 := hide_ (H1.out.later j2); have H2 := hide_ (h2.later (below2 w2 (.cells #[.int .i64 c, .int .i64 k, .int .i64 i, .slice ka2 nK kc2] 50) (.cells #[.bool false, .int .i64 0, .int .i64 0] 44))); clear h2; clear b2 j2) | (go_at_call 30; refine (q3.out _ _ _ _ _ H1.out H2.out).mono ?_; rintro e w3 ⟨rfl, b3⟩; have k3 := hide_ (k2.out.trans (b3.mono k2.out.size)); have A2 := hide_ (A2.out.later b3); obtain ⟨f0, f1, f2, -⟩ := A2.out.three; obtain ⟨u0, u1, u2, -⟩ := ((AB.at1 w2 (.cells #[.int .i64 c, .int .i64 k, .int .i64 i, .slice ka2 nK kc2] 50) 44 [.bool false, .int .i64 0, .int .i64 0]).later b3).three; clear b3) | (go_at_call 24; refine (awake18_any _).mono ?_; rintro e w9 ⟨rfl, b9⟩))
  go_ret
  exact ⟨rfl, k3.out.trans (b9.mono k3.out.size)⟩

set_option maxRecDepth 100000 in
set_option maxHeartbeats 8000000 in
theorem gdl_bad (t d : Int) (ao : Option Addr) (cap m : Nat) (w : World) (hm : m ≤ 70000)
    (q1 : ∀ W, Below w.heap.size w W → Calls Tryz.prog 31 #[.slice ao m cap] W fun e w' => e = .returned (.tuple #[.agg #[.int .i64 0, .int .i64 0, .int .i64 0, .slice none 0 0], .agg #[.bool true, .int .i64 t, .int .i64 d]]) ∧ Below W.heap.size W w')
    (q2 : ∀ W, Below w.heap.size w W → Calls Tryz.prog 32 #[.slice ao m cap] W fun e w' => e = .returned (.tuple #[.agg #[.int .i64 0, .int .i64 0, .int .i64 0, .slice none 0 0], .agg #[.bool true, .int .i64 t, .int .i64 d]]) ∧ Below W.heap.size W w')
    (q3 : ∀ W, Calls Tryz.prog 30 #[.agg #[.int .i64 0, .int .i64 0, .int .i64 0, .slice none 0 0], .agg #[.int .i64 0, .int .i64 0, .int .i64 0, .slice none 0 0]] W fun e w' => e = .returned (.bool true) ∧ Below W.heap.size W w') :
    Calls Tryz.prog 6 #[.slice ao m cap] w fun e w' => e = .returned (.bool true) ∧ Below w.heap.size w w' := by
  have g1 : ¬ (70000 : Int) < (m : Int) := by omega
  have q1 := hide_ q1
  have q2 := hide_ q2
  have q3 := hide_ q3
  go_enter Tryz.func6, Tryz.ntmps6
  go_wp2_with (first | (go_at_call 31; refine (q1.out _ (Below.refl _ _)).mono ?_; rintro e w1 ⟨rfl, b1⟩; have k1 := hide_ (b1.trans ((below2 w1 (.cells #[.int .i64 0, .int .i64 0, .int .i64 0, .slice none 0 0] 50) (.cells #[.bool true, .int .i64 t, .int .i64 d] 44)).mono b1.size)); obtain ⟨x0, x1, x2, x3, -⟩ := ((AB.at0 w1 50 [.int .i64 0, .int .i64 0, .int .i64 0, .slice none 0 0]).alloc (.cells #[.bool true, .int .i64 t, .int .i64 d] 44)).k4; obtain ⟨f0, f1, f2, -⟩ := (AB.at1 w1 (.cells #[.int .i64 0, .int .i64 0, .int .i64 0, .slice none 0 0] 50) 44 [.bool true, .int .i64 t, .int .i64 d]).three; have A1 := hide_ ((AB.at0 w1 50 [.int .i64 0, .int .i64 0, .int .i64 0, .slice none 0 0]).alloc (.cells #[.bool true, .int .i64 t, .int .i64 d] 44)); have A2 := hide_ (AB.at1 w1 (.cells #[.int .i64 0, .int .i64 0, .int .i64 0, .slice none 0 0] 50) 44 [.bool true, .int .i64 t, .int .i64 d]); clear b1) | (go_at_call 32; refine (q2.out _ k1.out).mono ?_; rintro e w2 ⟨rfl, b2⟩; have j2 := b2.trans ((below2 w2 (.cells #[.int .i64 0, .int .i64 0, .int .i64 0, .slice none 0 0] 50) (.cells #[.bool true, .int .i64 t, .int .i64 d] 44)).mono b2.size); have k2 := hide_ (k1.out.trans (j2.mono k1.out.size)); have A1 := hide_ (A1.out.later j2); have A2 := hide_ (A2.out.later j2); obtain ⟨x0, x1, x2, x3, -⟩ := A1.out.k4; obtain ⟨f0, f1, f2, -⟩ := A2.out.three; obtain ⟨y0, y1, y2, y3, -⟩ := ((AB.at0 w2 50 [.int .i64 0, .int .i64 0, .int .i64 0, .slice none 0 0]).alloc (.cells #[.bool true, .int .i64 t, .int .i64 d] 44)).k4; obtain ⟨u0, u1, u2, -⟩ := (AB.at1 w2 (.cells #[.int .i64 0, .int .i64 0, .int .i64 0, .slice none 0 0] 50) 44 [.bool true, .int .i64 t, .int .i64 d]).three; clear b2 j2) | (go_at_call 30; refine (q3.out _).mono ?_; rintro e w3 ⟨rfl, b3⟩; have k3 := hide_ (k2.out.trans (b3.mono k2.out.size)); have A2 := hide_ (A2.out.later b3); obtain ⟨f0, f1, f2, -⟩ := A2.out.three; obtain ⟨u0, u1, u2, -⟩ := ((AB.at1 w2 (.cells #[.int .i64 0, .int .i64 0, .int .i64 0, .slice none 0 0] 50) 44 [.bool true, .int .i64 t, .int .i64 d]).later b3).three; clear b3) | (go_at_call 24; refine (awake18_any _).mono ?_; rintro e w9 ⟨rfl, b9⟩))
  go_ret
  exact ⟨rfl, k3.out.trans (b9.mono k3.out.size)⟩

theorem groupmodDecodes_walk (u : Value) (l : List Int) (w : World) (hB : Bytes w u l) :
    Calls Tryz.prog 6 #[u] w fun e w' => e = .returned (.bool true) ∧ Below w.heap.size w w' := by
  obtain ⟨ao, cap, rfl⟩ := hB.short
  have hm : l.length ≤ 9223372036854775807 := by obtain ⟨_, _, h1⟩ := Bytes.at hB; unfold maxLen at *; omega
  by_cases h7 : l.length ≤ 70000
  · rcases g_all l hB.isB_ with ⟨K, h, h2⟩ | ⟨t, d, h, h2⟩
    · exact gdl_ok _ _ _ K K.length ao cap l.length w h7 (fun W hW => gdec_ok _ l K W (hB.later hW) h) (fun W hW => rgdec_ok _ l K W (hB.later hW) h2) (fun ka kc ka2 kc2 W hx hy => rgsame_eq _ _ _ ka K.length kc K ka2 K.length kc2 W hx hy)
    · exact gdl_bad t d ao cap l.length w h7 (fun W hW => gdec_bad _ l t d W (hB.later hW) h) (fun W hW => rgdec_bad _ l t d W (hB.later hW) h2) rsame_zero
  · exact gdl_dark ao cap l.length w hm (by omega)
end Go.Proofs.YthhijfphfcmniaaGreat

