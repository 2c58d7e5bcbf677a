import Derived.Test.YtadgppedodlgmaaAn
import Derived.Test.YtadgppedodlgmaaAc
import Derived.Test.YtadgppedodlgmaaOg
import Derived.Test.YtadgppedodlgmaaOo
import Derived.Test.YtadgppedodlgmaaOy
import Derived.Deep.RegionHeld3
import Derived.Deep.RegionWith
import Derived.Deep.MidRow
import Derived.Deep.Cut
namespace Go.Proofs.Ytadgppedodlgmaa
open Go Go.RowKit
set_option linter.unusedVariables false
set_option linter.unusedSimpArgs false

def lenOk (l : List Int) : Bool := decide (8 ≤ l.length) && (decide (8 ≤ be2 l 2) && (decide (be2 l 2 % 8 = 0) && decide (be2 l 2 ≤ l.length)))
def setC (k : Int) : Int := if k = 1 then 14 else if k = 6 then 13 else 15
theorem r8_mod (n : Nat) : (r8 n = n) ↔ n % 8 = 0 := by unfold r8; omega
set_option maxRecDepth 100000 in
set_option maxHeartbeats 4000000 in
theorem rlen_a (ao : Option Addr) (cap : Nat) (l : List Int) (w : World) (hB : Bytes w (.slice ao l.length cap) l) (h : l.length < 8) :
    Calls Try.prog 47 #[.slice ao l.length cap] w fun e w' => e = .returned (.tuple #[.int .i64 0, .agg #[.bool true, .int .i64 2, .int .i64 1]]) ∧ Below w.heap.size w w' := by
  have F0 := hide_ (AB.at0 w 34 [.bool false, .int .i64 0, .int .i64 0])
  have B0 := hide_ (below1 w (.cells #[.bool false, .int .i64 0, .int .i64 0] 34))
  have qr := hide_ (fun w => refuse2_any 1 w)
  unfold fv at qr
  have qg := hide_ (fun W hW => nget2 _ l 2 W (hB.later (w' := W) hW) (by omega))
  have hm : l.length ≤ 9223372036854775807 := by obtain ⟨_, _, h1⟩ := Bytes.at hB; unfold maxLen at *; omega
  have hz := (be2_range (Bytes.isB_ hB) 2)
  have h' : (l.length : Int) < 8 := by omega
  clear hB
  generalize be2 l 2 = z at *
  generalize l.length = n at *
  go_enter Try.func47, Try.ntmps47
  go_wp2_with (first  | (go_at_call 51; refine (qr.out _).mono ?_; rintro e w5 ⟨rfl, b5⟩; have k5 := b5; obtain ⟨s0, s1, s2, s3, s4, s5⟩ := (F0.out.later k5).three; obtain ⟨u0, u1, u2, -⟩ := ((F0.out.later k5).set3 (.bool true) (.int .i64 2) (.int .i64 1)).three; have bb := below_set3 (g := w.heap.size) (B0.out.trans (k5.mono B0.out.size)) (Nat.le_refl _) (.bool true) (.int .i64 2) (.int .i64 1)))
  exact bodyPost_ret (v := .tuple #[.int .i64 0, .agg #[.bool true, .int .i64 2, .int .i64 1]]) (by simp [results, Try.results47, go_sem, u0, u1, u2]) rfl ⟨rfl, bb⟩

set_option maxRecDepth 100000 in
set_option maxHeartbeats 4000000 in
theorem rlen_b (ao : Option Addr) (cap : Nat) (l : List Int) (w : World) (hB : Bytes w (.slice ao l.length cap) l) (h : ¬ l.length < 8) (h2 : be2 l 2 < 8) :
    Calls Try.prog 47 #[.slice ao l.length cap] w fun e w' => e = .returned (.tuple #[.int .i64 0, .agg #[.bool true, .int .i64 2, .int .i64 1]]) ∧ Below w.heap.size w w' := by
  have F0 := hide_ (AB.at0 w 34 [.bool false, .int .i64 0, .int .i64 0])
  have B0 := hide_ (below1 w (.cells #[.bool false, .int .i64 0, .int .i64 0] 34))
  have qr := hide_ (fun w => refuse2_any 1 w)
  unfold fv at qr
  have qg := hide_ (fun W hW => nget2 _ l 2 W (hB.later (w' := W) hW) (by omega))
  have hm : l.length ≤ 9223372036854775807 := by obtain ⟨_, _, h1⟩ := Bytes.at hB; unfold maxLen at *; omega
  have hz := (be2_range (Bytes.isB_ hB) 2)
  have h' : ¬ (l.length : Int) < 8 := by omega
  clear hB
  generalize be2 l 2 = z at *
  generalize l.length = n at *
  go_enter Try.func47, Try.ntmps47
  go_wp2_with (first  | (go_at_call 72; refine (qg.out _ B0.out).mono ?_; rintro e w1 ⟨er, rfl, b1⟩; obtain ⟨s0, s1, s2, s3, s4, s5⟩ := (F0.out.later b1).three; obtain ⟨u0, u1, u2, -⟩ := ((F0.out.later b1).set3 (.bool false) (.int .i64 0) (.int .i64 0)).three; have bb := below_set3 (g := w.heap.size) (B0.out.trans (b1.mono B0.out.size)) (Nat.le_refl _) (.bool false) (.int .i64 0) (.int .i64 0)) | (go_at_call 51; refine (qr.out _).mono ?_; rintro e w5 ⟨rfl, b5⟩; have k5 := b1.trans (b5.mono b1.size); obtain ⟨s0, s1, s2, s3, s4, s5⟩ := (F0.out.later k5).three; obtain ⟨u0, u1, u2, -⟩ := ((F0.out.later k5).set3 (.bool true) (.int .i64 2) (.int .i64 1)).three; have bb := below_set3 (g := w.heap.size) (B0.out.trans (k5.mono B0.out.size)) (Nat.le_refl _) (.bool true) (.int .i64 2) (.int .i64 1)))
  exact bodyPost_ret (v := .tuple #[.int .i64 0, .agg #[.bool true, .int .i64 2, .int .i64 1]]) (by simp [results, Try.results47, go_sem, u0, u1, u2]) rfl ⟨rfl, bb⟩

set_option maxRecDepth 100000 in
set_option maxHeartbeats 4000000 in
theorem rlen_c (ao : Option Addr) (cap : Nat) (l : List Int) (w : World) (hB : Bytes w (.slice ao l.length cap) l) (h : ¬ l.length < 8) (h2 : ¬ be2 l 2 < 8) (h3 : ¬ be2 l 2 % 8 = 0) :
    Calls Try.prog 47 #[.slice ao l.length cap] w fun e w' => e = .returned (.tuple #[.int .i64 0, .agg #[.bool true, .int .i64 2, .int .i64 1]]) ∧ Below w.heap.size w w' := by
  have F0 := hide_ (AB.at0 w 34 [.bool false, .int .i64 0, .int .i64 0])
  have B0 := hide_ (below1 w (.cells #[.bool false, .int .i64 0, .int .i64 0] 34))
  have qr := hide_ (fun w => refuse2_any 1 w)
  unfold fv at qr
  have qg := hide_ (fun W hW => nget2 _ l 2 W (hB.later (w' := W) hW) (by omega))
  have hm : l.length ≤ 9223372036854775807 := by obtain ⟨_, _, h1⟩ := Bytes.at hB; unfold maxLen at *; omega
  have hz := (be2_range (Bytes.isB_ hB) 2)
  have h' : ¬ (l.length : Int) < 8 := by omega
  obtain ⟨N, hN⟩ : ∃ N : Nat, be2 l 2 = (N : Int) := ⟨(be2 l 2).toNat, by omega⟩
  have qo := hide_ (fun w => round_any N w (by omega))
  have h4 : ((N : Int) != ((r8 N : Nat) : Int)) = true := by simp; have := r8_mod N; omega
  have h5 : (((N : Int) == ((r8 N : Nat) : Int))) = false := by simp; have := r8_mod N; omega
  generalize r8 N = NN at *
  clear hB
  generalize be2 l 2 = z at *
  subst hN
  generalize l.length = n at *
  go_enter Try.func47, Try.ntmps47
  go_wp2_with (first  | (go_at_call 72; refine (qg.out _ B0.out).mono ?_; rintro e w1 ⟨er, rfl, b1⟩; obtain ⟨s0, s1, s2, s3, s4, s5⟩ := (F0.out.later b1).three; obtain ⟨u0, u1, u2, -⟩ := ((F0.out.later b1).set3 (.bool false) (.int .i64 0) (.int .i64 0)).three; have bb := below_set3 (g := w.heap.size) (B0.out.trans (b1.mono B0.out.size)) (Nat.le_refl _) (.bool false) (.int .i64 0) (.int .i64 0)) | (go_at_call 41; refine (qo.out _).mono ?_; rintro e w' ⟨rfl, rfl⟩) | (go_at_call 51; refine (qr.out _).mono ?_; rintro e w5 ⟨rfl, b5⟩; have k5 := b1.trans (b5.mono b1.size); obtain ⟨s0, s1, s2, s3, s4, s5⟩ := (F0.out.later k5).three; obtain ⟨u0, u1, u2, -⟩ := ((F0.out.later k5).set3 (.bool true) (.int .i64 2) (.int .i64 1)).three; have bb := below_set3 (g := w.heap.size) (B0.out.trans (k5.mono B0.out.size)) (Nat.le_refl _) (.bool true) (.int .i64 2) (.int .i64 1)))
  exact bodyPost_ret (v := .tuple #[.int .i64 0, .agg #[.bool true, .int .i64 2, .int .i64 1]]) (by simp [results, Try.results47, go_sem, u0, u1, u2]) rfl ⟨rfl, bb⟩

set_option maxRecDepth 100000 in
set_option maxHeartbeats 4000000 in
theorem rlen_d (ao : Option Addr) (cap : Nat) (l : List Int) (w : World) (hB : Bytes w (.slice ao l.length cap) l) (h : ¬ l.length < 8) (h2 : ¬ be2 l 2 < 8) (h3 : be2 l 2 % 8 = 0) (h6 : ¬ be2 l 2 ≤ l.length) :
    Calls Try.prog 47 #[.slice ao l.length cap] w fun e w' => e = .returned (.tuple #[.int .i64 0, .agg #[.bool true, .int .i64 2, .int .i64 1]]) ∧ Below w.heap.size w w' := by
  have F0 := hide_ (AB.at0 w 34 [.bool false, .int .i64 0, .int .i64 0])
  have B0 := hide_ (below1 w (.cells #[.bool false, .int .i64 0, .int .i64 0] 34))
  have qr := hide_ (fun w => refuse2_any 1 w)
  unfold fv at qr
  have qg := hide_ (fun W hW => nget2 _ l 2 W (hB.later (w' := W) hW) (by omega))
  have hm : l.length ≤ 9223372036854775807 := by obtain ⟨_, _, h1⟩ := Bytes.at hB; unfold maxLen at *; omega
  have hz := (be2_range (Bytes.isB_ hB) 2)
  have h' : ¬ (l.length : Int) < 8 := by omega
  obtain ⟨N, hN⟩ : ∃ N : Nat, be2 l 2 = (N : Int) := ⟨(be2 l 2).toNat, by omega⟩
  have qo := hide_ (fun w => round_any N w (by omega))
  have h4 : r8 N = N := (r8_mod N).2 (by omega)
  rw [h4] at qo
  clear h4
  have h7 : (l.length : Int) < (N : Int) := by omega
  clear hB
  generalize be2 l 2 = z at *
  subst hN
  generalize l.length = n at *
  go_enter Try.func47, Try.ntmps47
  go_wp2_with (first  | (go_at_call 72; refine (qg.out _ B0.out).mono ?_; rintro e w1 ⟨er, rfl, b1⟩; obtain ⟨s0, s1, s2, s3, s4, s5⟩ := (F0.out.later b1).three; obtain ⟨u0, u1, u2, -⟩ := ((F0.out.later b1).set3 (.bool false) (.int .i64 0) (.int .i64 0)).three; have bb := below_set3 (g := w.heap.size) (B0.out.trans (b1.mono B0.out.size)) (Nat.le_refl _) (.bool false) (.int .i64 0) (.int .i64 0)) | (go_at_call 41; refine (qo.out _).mono ?_; rintro e w' ⟨rfl, rfl⟩) | (go_at_call 51; refine (qr.out _).mono ?_; rintro e w5 ⟨rfl, b5⟩; have k5 := b1.trans (b5.mono b1.size); obtain ⟨s0, s1, s2, s3, s4, s5⟩ := (F0.out.later k5).three; obtain ⟨u0, u1, u2, -⟩ := ((F0.out.later k5).set3 (.bool true) (.int .i64 2) (.int .i64 1)).three; have bb := below_set3 (g := w.heap.size) (B0.out.trans (k5.mono B0.out.size)) (Nat.le_refl _) (.bool true) (.int .i64 2) (.int .i64 1)))
  exact bodyPost_ret (v := .tuple #[.int .i64 0, .agg #[.bool true, .int .i64 2, .int .i64 1]]) (by simp [results, Try.results47, go_sem, u0, u1, u2]) rfl ⟨rfl, bb⟩

set_option maxRecDepth 100000 in
set_option maxHeartbeats 4000000 in
theorem rlen_e (ao : Option Addr) (cap : Nat) (l : List Int) (w : World) (hB : Bytes w (.slice ao l.length cap) l) (h : ¬ l.length < 8) (h2 : ¬ be2 l 2 < 8) (h3 : be2 l 2 % 8 = 0) (h6 : be2 l 2 ≤ l.length) :
    Calls Try.prog 47 #[.slice ao l.length cap] w fun e w' => e = .returned (.tuple #[.int .i64 (be2 l 2), .agg #[.bool false, .int .i64 0, .int .i64 0]]) ∧ Below w.heap.size w w' := by
  have F0 := hide_ (AB.at0 w 34 [.bool false, .int .i64 0, .int .i64 0])
  have B0 := hide_ (below1 w (.cells #[.bool false, .int .i64 0, .int .i64 0] 34))
  have qr := hide_ (fun w => refuse2_any 1 w)
  unfold fv at qr
  have qg := hide_ (fun W hW => nget2 _ l 2 W (hB.later (w' := W) hW) (by omega))
  have hm : l.length ≤ 9223372036854775807 := by obtain ⟨_, _, h1⟩ := Bytes.at hB; unfold maxLen at *; omega
  have hz := (be2_range (Bytes.isB_ hB) 2)
  have h' : ¬ (l.length : Int) < 8 := by omega
  obtain ⟨N, hN⟩ : ∃ N : Nat, be2 l 2 = (N : Int) := ⟨(be2 l 2).toNat, by omega⟩
  have qo := hide_ (fun w => round_any N w (by omega))
  have h4 : r8 N = N := (r8_mod N).2 (by omega)
  rw [h4] at qo
  clear h4
  have h7 : ¬ (l.length : Int) < (N : Int) := by omega
  clear hB
  generalize be2 l 2 = z at *
  subst hN
  generalize l.length = n at *
  go_enter Try.func47, Try.ntmps47
  go_wp2_with (first  | (go_at_call 72; refine (qg.out _ B0.out).mono ?_; rintro e w1 ⟨er, rfl, b1⟩; obtain ⟨s0, s1, s2, s3, s4, s5⟩ := (F0.out.later b1).three; obtain ⟨u0, u1, u2, -⟩ := ((F0.out.later b1).set3 (.bool false) (.int .i64 0) (.int .i64 0)).three; have bb := below_set3 (g := w.heap.size) (B0.out.trans (b1.mono B0.out.size)) (Nat.le_refl _) (.bool false) (.int .i64 0) (.int .i64 0)) | (go_at_call 41; refine (qo.out _).mono ?_; rintro e w' ⟨rfl, rfl⟩) | (go_at_call 51; refine (qr.out _).mono ?_; rintro e w5 ⟨rfl, b5⟩; have k5 := b1.trans (b5.mono b1.size); obtain ⟨s0, s1, s2, s3, s4, s5⟩ := (F0.out.later k5).three; obtain ⟨u0, u1, u2, -⟩ := ((F0.out.later k5).set3 (.bool true) (.int .i64 2) (.int .i64 1)).three; have bb := below_set3 (g := w.heap.size) (B0.out.trans (k5.mono B0.out.size)) (Nat.le_refl _) (.bool true) (.int .i64 2) (.int .i64 1)))
  exact bodyPost_ret (v := .tuple #[.int .i64 (N : Int), .agg #[.bool false, .int .i64 0, .int .i64 0]]) (by simp [results, Try.results47, go_sem, u0, u1, u2]) rfl ⟨rfl, bb⟩

set_option maxRecDepth 100000 in
set_option maxHeartbeats 4000000 in
theorem rset_1 (w : World) :
    Calls Try.prog 74 #[.agg #[.bool true, .int .i64 4, .int .i64 1]] w fun e w' => e = .returned (.agg #[.bool true, .int .i64 2, .int .i64 14]) ∧ Below w.heap.size w w' := by
  have F0 := hide_ (AB.at1 w (.cells #[.bool true, .int .i64 4, .int .i64 1] 34) 34 [.bool false, .int .i64 0, .int .i64 0])
  have B0 := hide_ (below2 w (.cells #[.bool true, .int .i64 4, .int .i64 1] 34) (.cells #[.bool false, .int .i64 0, .int .i64 0] 34))
  have qr := hide_ (fun k w => refuse2_any k w)
  unfold fv at qr
  go_enter Try.func74, Try.ntmps74
  go_wp2_with (go_at_call 51; refine (qr.out _ _).mono ?_; rintro e w1 ⟨rfl, b1⟩; obtain ⟨s0, s1, s2, s3, s4, s5⟩ := (F0.out.later b1).three; obtain ⟨u0, u1, u2, -⟩ := ((F0.out.later b1).set3 (.bool true) (.int .i64 2) (.int .i64 14)).three; have bb := below_set3 (g := w.heap.size + 1) (B0.out.trans (b1.mono B0.out.size)) (by omega) (.bool true) (.int .i64 2) (.int .i64 14))
  exact bodyPost_ret (v := .agg #[.bool true, .int .i64 2, .int .i64 14]) (by simp [results, Try.results74, go_sem, u0, u1, u2]) rfl ⟨rfl, bb⟩

set_option maxRecDepth 100000 in
set_option maxHeartbeats 4000000 in
theorem rset_6 (w : World) :
    Calls Try.prog 74 #[.agg #[.bool true, .int .i64 4, .int .i64 6]] w fun e w' => e = .returned (.agg #[.bool true, .int .i64 2, .int .i64 13]) ∧ Below w.heap.size w w' := by
  have F0 := hide_ (AB.at1 w (.cells #[.bool true, .int .i64 4, .int .i64 6] 34) 34 [.bool false, .int .i64 0, .int .i64 0])
  have B0 := hide_ (below2 w (.cells #[.bool true, .int .i64 4, .int .i64 6] 34) (.cells #[.bool false, .int .i64 0, .int .i64 0] 34))
  have qr := hide_ (fun k w => refuse2_any k w)
  unfold fv at qr
  go_enter Try.func74, Try.ntmps74
  go_wp2_with (go_at_call 51; refine (qr.out _ _).mono ?_; rintro e w1 ⟨rfl, b1⟩; obtain ⟨s0, s1, s2, s3, s4, s5⟩ := (F0.out.later b1).three; obtain ⟨u0, u1, u2, -⟩ := ((F0.out.later b1).set3 (.bool true) (.int .i64 2) (.int .i64 13)).three; have bb := below_set3 (g := w.heap.size + 1) (B0.out.trans (b1.mono B0.out.size)) (by omega) (.bool true) (.int .i64 2) (.int .i64 13))
  exact bodyPost_ret (v := .agg #[.bool true, .int .i64 2, .int .i64 13]) (by simp [results, Try.results74, go_sem, u0, u1, u2]) rfl ⟨rfl, bb⟩

set_option maxRecDepth 100000 in
set_option maxHeartbeats 4000000 in
theorem rset_z (k : Int) (w : World) (h1 : k ≠ 1) (h6 : k ≠ 6) :
    Calls Try.prog 74 #[.agg #[.bool true, .int .i64 4, .int .i64 k]] w fun e w' => e = .returned (.agg #[.bool true, .int .i64 2, .int .i64 15]) ∧ Below w.heap.size w w' := by
  have F0 := hide_ (AB.at1 w (.cells #[.bool true, .int .i64 4, .int .i64 k] 34) 34 [.bool false, .int .i64 0, .int .i64 0])
  have B0 := hide_ (below2 w (.cells #[.bool true, .int .i64 4, .int .i64 k] 34) (.cells #[.bool false, .int .i64 0, .int .i64 0] 34))
  have qr := hide_ (fun k w => refuse2_any k w)
  unfold fv at qr
  go_enter Try.func74, Try.ntmps74
  go_wp2_with (go_at_call 51; refine (qr.out _ _).mono ?_; rintro e w1 ⟨rfl, b1⟩; obtain ⟨s0, s1, s2, s3, s4, s5⟩ := (F0.out.later b1).three; obtain ⟨u0, u1, u2, -⟩ := ((F0.out.later b1).set3 (.bool true) (.int .i64 2) (.int .i64 15)).three; have bb := below_set3 (g := w.heap.size + 1) (B0.out.trans (b1.mono B0.out.size)) (by omega) (.bool true) (.int .i64 2) (.int .i64 15))
  exact bodyPost_ret (v := .agg #[.bool true, .int .i64 2, .int .i64 15]) (by simp [results, Try.results74, go_sem, u0, u1, u2]) rfl ⟨rfl, bb⟩


end Go.Proofs.Ytadgppedodlgmaa
