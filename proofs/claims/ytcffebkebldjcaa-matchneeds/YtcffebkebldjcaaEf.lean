import Derived.Test.YtcffebkebldjcaaPa
import Derived.Test.YtcffebkebldjcaaEc
import Derived.Deep.RegionHeld3
import Derived.Deep.RegionWith
import Derived.Deep.MidRow
import Derived.Deep.Cut
namespace Go.Proofs.Ytcffebkebldjcaa
open Go Go.RowKit
set_option linter.unusedVariables false
set_option linter.unusedSimpArgs false

set_option maxRecDepth 100000 in
set_option maxHeartbeats 4000000 in
theorem mround_any (n : Nat) (w : World) (hn : n ≤ 1000000) :
    Calls Try.prog 33 #[.int .i64 (n : Int)] w fun e w' => e = .returned (.int .i64 ((r8 n : Nat) : Int)) ∧ w' = w := by
  have h1 : IntKind.i64.wrap ((n : Int) + 7) = (n : Int) + 7 := by rw [IntKind.wrap_i64]; omega
  have ht : Int.tdiv ((n : Int) + 7) 8 = (((n + 7) / 8 : Nat) : Int) := by rw [Int.tdiv_eq_ediv_of_nonneg (by omega)]; omega
  have h2 : IntKind.i64.wrap (Int.tdiv ((n : Int) + 7) 8) = Int.tdiv ((n : Int) + 7) 8 := by rw [ht, IntKind.wrap_i64]; omega
  have h3 : IntKind.i64.wrap (Int.tdiv ((n : Int) + 7) 8 * 8) = ((r8 n : Nat) : Int) := by rw [ht, IntKind.wrap_i64]; unfold r8; omega
  clear ht
  go_enter Try.func33, Try.ntmps33
  go_wp2_with fail
  go_ret
  exact ⟨by first | rfl | simp [h1, h2, h3], rfl⟩

set_option maxRecDepth 100000 in
set_option maxHeartbeats 4000000 in
theorem mh_a (ao : Option Addr) (ln cap : Nat) (l : List Int) (N : Nat) (w : World) (hB : Bytes w (.slice ao ln cap) l) (hN : be2 l 2 = (N : Int)) (h : ln < 4) :
    Calls Try.prog 50 #[.slice ao ln cap] w fun e w' => e = .returned (.tuple #[.int .i64 0, .agg #[.bool true, .int .i64 4, .int .i64 1]]) ∧ Below w.heap.size w w' := by
  have F0 := hide_ (AB.at0 w 30 [.bool false, .int .i64 0, .int .i64 0])
  have B0 := hide_ (below1 w (.cells #[.bool false, .int .i64 0, .int .i64 0] 30))
  have qr := hide_ (fun k w => mrefuse_any k w)
  have q0 := hide_ (fun W hW => nget2 _ l 0 W (hB.later (w' := W) hW) (by omega))
  have q2 := fun W hW => nget2 _ l 2 W (hB.later (w' := W) hW) (by omega)
  rw [hN] at q2
  have q2 := hide_ q2
  have hm : ln ≤ 9223372036854775807 := by obtain ⟨h0, h1, h2⟩ := Bytes.at hB; unfold maxLen at *; omega
  have hNr : N ≤ 65535 := by have := be2_range (Bytes.isB_ hB) 2; omega
  have h' : (ln : Int) < 4 := by omega
  clear hB hN
  generalize be2 l 0 = z at *
  go_enter Try.func50, Try.ntmps50
  go_wp2_with (first  | (go_at_call 37; refine (qr.out _ _).mono ?_; rintro e w5 ⟨rfl, b5⟩; have K5 := b5; obtain ⟨s0, s1, s2, s3, s4, s5⟩ := (F0.out.later K5).three; obtain ⟨u0, u1, u2, -⟩ := ((F0.out.later K5).set3 (.bool true) (.int .i64 4) (.int .i64 1)).three; have bb := below_set3 (g := w.heap.size) (B0.out.trans (K5.mono B0.out.size)) (Nat.le_refl _) (.bool true) (.int .i64 4) (.int .i64 1)))
  exact bodyPost_ret (v := .tuple #[.int .i64 0, .agg #[.bool true, .int .i64 4, .int .i64 1]]) (by simp [results, Try.results50, go_sem, u0, u1, u2]) rfl ⟨rfl, bb⟩

set_option maxRecDepth 100000 in
set_option maxHeartbeats 4000000 in
theorem mh_b (ao : Option Addr) (ln cap : Nat) (l : List Int) (N : Nat) (w : World) (hB : Bytes w (.slice ao ln cap) l) (hN : be2 l 2 = (N : Int)) (h : ¬ ln < 4) (h2 : N < 4) :
    Calls Try.prog 50 #[.slice ao ln cap] w fun e w' => e = .returned (.tuple #[.int .i64 0, .agg #[.bool true, .int .i64 4, .int .i64 1]]) ∧ Below w.heap.size w w' := by
  have F0 := hide_ (AB.at0 w 30 [.bool false, .int .i64 0, .int .i64 0])
  have B0 := hide_ (below1 w (.cells #[.bool false, .int .i64 0, .int .i64 0] 30))
  have qr := hide_ (fun k w => mrefuse_any k w)
  have q0 := hide_ (fun W hW => nget2 _ l 0 W (hB.later (w' := W) hW) (by omega))
  have q2 := fun W hW => nget2 _ l 2 W (hB.later (w' := W) hW) (by omega)
  rw [hN] at q2
  have q2 := hide_ q2
  have hm : ln ≤ 9223372036854775807 := by obtain ⟨h0, h1, h2⟩ := Bytes.at hB; unfold maxLen at *; omega
  have hNr : N ≤ 65535 := by have := be2_range (Bytes.isB_ hB) 2; omega
  have h' : ¬ (ln : Int) < 4 := by omega
  have h2' : (N : Int) < 4 := by omega
  clear hB hN
  generalize be2 l 0 = z at *
  go_enter Try.func50, Try.ntmps50
  go_wp2_with (first  | (go_at_call_of 84 (Value.int IntKind.i64 0); refine (q0.out _ B0.out).mono ?_; rintro e w1 ⟨er, rfl, b1⟩) | (go_at_call 84; refine (q2.out _ (B0.out.trans (b1.mono B0.out.size))).mono ?_; rintro e w2 ⟨er2, rfl, b2⟩; have K2 := b1.trans (b2.mono b1.size); obtain ⟨t0, t1, t2, t3, t4, t5⟩ := (F0.out.later K2).three; obtain ⟨v0, v1, v2, -⟩ := ((F0.out.later K2).set3 (.bool false) (.int .i64 0) (.int .i64 0)).three; have bc := below_set3 (g := w.heap.size) (B0.out.trans (K2.mono B0.out.size)) (Nat.le_refl _) (.bool false) (.int .i64 0) (.int .i64 0)) | (go_at_call 37; refine (qr.out _ _).mono ?_; rintro e w5 ⟨rfl, b5⟩; have K5 := K2.trans (b5.mono K2.size); obtain ⟨s0, s1, s2, s3, s4, s5⟩ := (F0.out.later K5).three; obtain ⟨u0, u1, u2, -⟩ := ((F0.out.later K5).set3 (.bool true) (.int .i64 4) (.int .i64 1)).three; have bb := below_set3 (g := w.heap.size) (B0.out.trans (K5.mono B0.out.size)) (Nat.le_refl _) (.bool true) (.int .i64 4) (.int .i64 1)))
  exact bodyPost_ret (v := .tuple #[.int .i64 0, .agg #[.bool true, .int .i64 4, .int .i64 1]]) (by simp [results, Try.results50, go_sem, u0, u1, u2]) rfl ⟨rfl, bb⟩

set_option maxRecDepth 100000 in
set_option maxHeartbeats 4000000 in
theorem mh_c (ao : Option Addr) (ln cap : Nat) (l : List Int) (N : Nat) (w : World) (hB : Bytes w (.slice ao ln cap) l) (hN : be2 l 2 = (N : Int)) (h : ¬ ln < 4) (h2 : ¬ N < 4) (h3 : ln < r8 N) :
    Calls Try.prog 50 #[.slice ao ln cap] w fun e w' => e = .returned (.tuple #[.int .i64 0, .agg #[.bool true, .int .i64 4, .int .i64 1]]) ∧ Below w.heap.size w w' := by
  have F0 := hide_ (AB.at0 w 30 [.bool false, .int .i64 0, .int .i64 0])
  have B0 := hide_ (below1 w (.cells #[.bool false, .int .i64 0, .int .i64 0] 30))
  have qr := hide_ (fun k w => mrefuse_any k w)
  have q0 := hide_ (fun W hW => nget2 _ l 0 W (hB.later (w' := W) hW) (by omega))
  have q2 := fun W hW => nget2 _ l 2 W (hB.later (w' := W) hW) (by omega)
  rw [hN] at q2
  have q2 := hide_ q2
  have hm : ln ≤ 9223372036854775807 := by obtain ⟨h0, h1, h2⟩ := Bytes.at hB; unfold maxLen at *; omega
  have hNr : N ≤ 65535 := by have := be2_range (Bytes.isB_ hB) 2; omega
  have h' : ¬ (ln : Int) < 4 := by omega
  have h2' : ¬ (N : Int) < 4 := by omega
  have qo := hide_ (fun w => mround_any N w (by omega))
  generalize r8 N = rr at *
  have h3' : (ln : Int) < (rr : Int) := by omega
  clear hB hN
  generalize be2 l 0 = z at *
  go_enter Try.func50, Try.ntmps50
  go_wp2_with (first  | (go_at_call_of 84 (Value.int IntKind.i64 0); refine (q0.out _ B0.out).mono ?_; rintro e w1 ⟨er, rfl, b1⟩) | (go_at_call 84; refine (q2.out _ (B0.out.trans (b1.mono B0.out.size))).mono ?_; rintro e w2 ⟨er2, rfl, b2⟩; have K2 := b1.trans (b2.mono b1.size); obtain ⟨t0, t1, t2, t3, t4, t5⟩ := (F0.out.later K2).three; obtain ⟨v0, v1, v2, -⟩ := ((F0.out.later K2).set3 (.bool false) (.int .i64 0) (.int .i64 0)).three; have bc := below_set3 (g := w.heap.size) (B0.out.trans (K2.mono B0.out.size)) (Nat.le_refl _) (.bool false) (.int .i64 0) (.int .i64 0)) | (go_at_call 33; refine (qo.out _).mono ?_; rintro e w' ⟨rfl, rfl⟩) | (go_at_call 37; refine (qr.out _ _).mono ?_; rintro e w5 ⟨rfl, b5⟩; have K5 := K2.trans (b5.mono K2.size); obtain ⟨s0, s1, s2, s3, s4, s5⟩ := (F0.out.later K5).three; obtain ⟨u0, u1, u2, -⟩ := ((F0.out.later K5).set3 (.bool true) (.int .i64 4) (.int .i64 1)).three; have bb := below_set3 (g := w.heap.size) (B0.out.trans (K5.mono B0.out.size)) (Nat.le_refl _) (.bool true) (.int .i64 4) (.int .i64 1)))
  exact bodyPost_ret (v := .tuple #[.int .i64 0, .agg #[.bool true, .int .i64 4, .int .i64 1]]) (by simp [results, Try.results50, go_sem, u0, u1, u2]) rfl ⟨rfl, bb⟩

set_option maxRecDepth 100000 in
set_option maxHeartbeats 4000000 in
theorem mh_d (ao : Option Addr) (ln cap : Nat) (l : List Int) (N : Nat) (w : World) (hB : Bytes w (.slice ao ln cap) l) (hN : be2 l 2 = (N : Int)) (h : ¬ ln < 4) (h2 : ¬ N < 4) (h3 : r8 N ≤ ln) (h4 : ¬ be2 l 0 = 1) :
    Calls Try.prog 50 #[.slice ao ln cap] w fun e w' => e = .returned (.tuple #[.int .i64 0, .agg #[.bool true, .int .i64 4, .int .i64 0]]) ∧ Below w.heap.size w w' := by
  have F0 := hide_ (AB.at0 w 30 [.bool false, .int .i64 0, .int .i64 0])
  have B0 := hide_ (below1 w (.cells #[.bool false, .int .i64 0, .int .i64 0] 30))
  have qr := hide_ (fun k w => mrefuse_any k w)
  have q0 := hide_ (fun W hW => nget2 _ l 0 W (hB.later (w' := W) hW) (by omega))
  have q2 := fun W hW => nget2 _ l 2 W (hB.later (w' := W) hW) (by omega)
  rw [hN] at q2
  have q2 := hide_ q2
  have hm : ln ≤ 9223372036854775807 := by obtain ⟨h0, h1, h2⟩ := Bytes.at hB; unfold maxLen at *; omega
  have hNr : N ≤ 65535 := by have := be2_range (Bytes.isB_ hB) 2; omega
  have h' : ¬ (ln : Int) < 4 := by omega
  have h2' : ¬ (N : Int) < 4 := by omega
  have qo := hide_ (fun w => mround_any N w (by omega))
  generalize r8 N = rr at *
  have h3' : ¬ (ln : Int) < (rr : Int) := by omega
  have g4 : (be2 l 0 == 1) = false := by simpa using h4
  clear hB hN
  generalize be2 l 0 = z at *
  go_enter Try.func50, Try.ntmps50
  go_wp2_with (first  | (go_at_call_of 84 (Value.int IntKind.i64 0); refine (q0.out _ B0.out).mono ?_; rintro e w1 ⟨er, rfl, b1⟩) | (go_at_call 84; refine (q2.out _ (B0.out.trans (b1.mono B0.out.size))).mono ?_; rintro e w2 ⟨er2, rfl, b2⟩; have K2 := b1.trans (b2.mono b1.size); obtain ⟨t0, t1, t2, t3, t4, t5⟩ := (F0.out.later K2).three; obtain ⟨v0, v1, v2, -⟩ := ((F0.out.later K2).set3 (.bool false) (.int .i64 0) (.int .i64 0)).three; have bc := below_set3 (g := w.heap.size) (B0.out.trans (K2.mono B0.out.size)) (Nat.le_refl _) (.bool false) (.int .i64 0) (.int .i64 0)) | (go_at_call 33; refine (qo.out _).mono ?_; rintro e w' ⟨rfl, rfl⟩) | (go_at_call 37; refine (qr.out _ _).mono ?_; rintro e w5 ⟨rfl, b5⟩; have K5 := K2.trans (b5.mono K2.size); obtain ⟨s0, s1, s2, s3, s4, s5⟩ := (F0.out.later K5).three; obtain ⟨u0, u1, u2, -⟩ := ((F0.out.later K5).set3 (.bool true) (.int .i64 4) (.int .i64 0)).three; have bb := below_set3 (g := w.heap.size) (B0.out.trans (K5.mono B0.out.size)) (Nat.le_refl _) (.bool true) (.int .i64 4) (.int .i64 0)))
  exact bodyPost_ret (v := .tuple #[.int .i64 0, .agg #[.bool true, .int .i64 4, .int .i64 0]]) (by simp [results, Try.results50, go_sem, u0, u1, u2]) rfl ⟨rfl, bb⟩

set_option maxRecDepth 100000 in
set_option maxHeartbeats 4000000 in
theorem mh_e (ao : Option Addr) (ln cap : Nat) (l : List Int) (N : Nat) (w : World) (hB : Bytes w (.slice ao ln cap) l) (hN : be2 l 2 = (N : Int)) (h : ¬ ln < 4) (h2 : ¬ N < 4) (h3 : r8 N ≤ ln) (h4 : be2 l 0 = 1) (h5 : 1004 < N) :
    Calls Try.prog 50 #[.slice ao ln cap] w fun e w' => e = .returned (.tuple #[.int .i64 0, .agg #[.bool true, .int .i64 4, .int .i64 1]]) ∧ Below w.heap.size w w' := by
  have F0 := hide_ (AB.at0 w 30 [.bool false, .int .i64 0, .int .i64 0])
  have B0 := hide_ (below1 w (.cells #[.bool false, .int .i64 0, .int .i64 0] 30))
  have qr := hide_ (fun k w => mrefuse_any k w)
  have q0 := hide_ (fun W hW => nget2 _ l 0 W (hB.later (w' := W) hW) (by omega))
  have q2 := fun W hW => nget2 _ l 2 W (hB.later (w' := W) hW) (by omega)
  rw [hN] at q2
  have q2 := hide_ q2
  have hm : ln ≤ 9223372036854775807 := by obtain ⟨h0, h1, h2⟩ := Bytes.at hB; unfold maxLen at *; omega
  have hNr : N ≤ 65535 := by have := be2_range (Bytes.isB_ hB) 2; omega
  have h' : ¬ (ln : Int) < 4 := by omega
  have h2' : ¬ (N : Int) < 4 := by omega
  have qo := hide_ (fun w => mround_any N w (by omega))
  generalize r8 N = rr at *
  have h3' : ¬ (ln : Int) < (rr : Int) := by omega
  rw [h4] at q0
  have h5' : (1004 : Int) < (N : Int) := by omega
  clear hB hN
  clear h4
  go_enter Try.func50, Try.ntmps50
  go_wp2_with (first  | (go_at_call_of 84 (Value.int IntKind.i64 0); refine (q0.out _ B0.out).mono ?_; rintro e w1 ⟨er, rfl, b1⟩) | (go_at_call 84; refine (q2.out _ (B0.out.trans (b1.mono B0.out.size))).mono ?_; rintro e w2 ⟨er2, rfl, b2⟩; have K2 := b1.trans (b2.mono b1.size); obtain ⟨t0, t1, t2, t3, t4, t5⟩ := (F0.out.later K2).three; obtain ⟨v0, v1, v2, -⟩ := ((F0.out.later K2).set3 (.bool false) (.int .i64 0) (.int .i64 0)).three; have bc := below_set3 (g := w.heap.size) (B0.out.trans (K2.mono B0.out.size)) (Nat.le_refl _) (.bool false) (.int .i64 0) (.int .i64 0)) | (go_at_call 33; refine (qo.out _).mono ?_; rintro e w' ⟨rfl, rfl⟩) | (go_at_call 37; refine (qr.out _ _).mono ?_; rintro e w5 ⟨rfl, b5⟩; have K5 := K2.trans (b5.mono K2.size); obtain ⟨s0, s1, s2, s3, s4, s5⟩ := (F0.out.later K5).three; obtain ⟨u0, u1, u2, -⟩ := ((F0.out.later K5).set3 (.bool true) (.int .i64 4) (.int .i64 1)).three; have bb := below_set3 (g := w.heap.size) (B0.out.trans (K5.mono B0.out.size)) (Nat.le_refl _) (.bool true) (.int .i64 4) (.int .i64 1)))
  exact bodyPost_ret (v := .tuple #[.int .i64 0, .agg #[.bool true, .int .i64 4, .int .i64 1]]) (by simp [results, Try.results50, go_sem, u0, u1, u2]) rfl ⟨rfl, bb⟩

set_option maxRecDepth 100000 in
set_option maxHeartbeats 4000000 in
theorem mh_f (ao : Option Addr) (ln cap : Nat) (l : List Int) (N : Nat) (w : World) (hB : Bytes w (.slice ao ln cap) l) (hN : be2 l 2 = (N : Int)) (h : ¬ ln < 4) (h2 : ¬ N < 4) (h3 : r8 N ≤ ln) (h4 : be2 l 0 = 1) (h5 : ¬ 1004 < N) :
    Calls Try.prog 50 #[.slice ao ln cap] w fun e w' => e = .returned (.tuple #[.int .i64 (N : Int), .agg #[.bool false, .int .i64 0, .int .i64 0]]) ∧ Below w.heap.size w w' := by
  have F0 := hide_ (AB.at0 w 30 [.bool false, .int .i64 0, .int .i64 0])
  have B0 := hide_ (below1 w (.cells #[.bool false, .int .i64 0, .int .i64 0] 30))
  have qr := hide_ (fun k w => mrefuse_any k w)
  have q0 := hide_ (fun W hW => nget2 _ l 0 W (hB.later (w' := W) hW) (by omega))
  have q2 := fun W hW => nget2 _ l 2 W (hB.later (w' := W) hW) (by omega)
  rw [hN] at q2
  have q2 := hide_ q2
  have hm : ln ≤ 9223372036854775807 := by obtain ⟨h0, h1, h2⟩ := Bytes.at hB; unfold maxLen at *; omega
  have hNr : N ≤ 65535 := by have := be2_range (Bytes.isB_ hB) 2; omega
  have h' : ¬ (ln : Int) < 4 := by omega
  have h2' : ¬ (N : Int) < 4 := by omega
  have qo := hide_ (fun w => mround_any N w (by omega))
  generalize r8 N = rr at *
  have h3' : ¬ (ln : Int) < (rr : Int) := by omega
  rw [h4] at q0
  have h5' : ¬ (1004 : Int) < (N : Int) := by omega
  clear hB hN
  clear h4
  go_enter Try.func50, Try.ntmps50
  go_wp2_with (first  | (go_at_call_of 84 (Value.int IntKind.i64 0); refine (q0.out _ B0.out).mono ?_; rintro e w1 ⟨er, rfl, b1⟩) | (go_at_call 84; refine (q2.out _ (B0.out.trans (b1.mono B0.out.size))).mono ?_; rintro e w2 ⟨er2, rfl, b2⟩; have K2 := b1.trans (b2.mono b1.size); obtain ⟨t0, t1, t2, t3, t4, t5⟩ := (F0.out.later K2).three; obtain ⟨v0, v1, v2, -⟩ := ((F0.out.later K2).set3 (.bool false) (.int .i64 0) (.int .i64 0)).three; have bc := below_set3 (g := w.heap.size) (B0.out.trans (K2.mono B0.out.size)) (Nat.le_refl _) (.bool false) (.int .i64 0) (.int .i64 0)) | (go_at_call 33; refine (qo.out _).mono ?_; rintro e w' ⟨rfl, rfl⟩))
  exact bodyPost_ret (v := .tuple #[.int .i64 (N : Int), .agg #[.bool false, .int .i64 0, .int .i64 0]]) (by simp [results, Try.results50, go_sem, v0, v1, v2]) rfl ⟨rfl, bc⟩


end Go.Proofs.Ytcffebkebldjcaa
