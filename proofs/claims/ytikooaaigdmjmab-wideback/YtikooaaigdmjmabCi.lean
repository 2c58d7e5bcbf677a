import Derived.Test.YtikooaaigdmjmabCh
namespace Go.Proofs.Ytikooaaigdmjmab
open Go Go.RowKit
set_option linter.unusedVariables false
set_option linter.unusedSimpArgs false

theorem back_vals (a b s : Nat) (hs : s ≤ 16) (ha : a < 18446744073709551616) (hb : b < 18446744073709551616) (h : a * 18446744073709551616 + b < 256 ^ s) :
    gok ([] ++ wtail a b s) s = true ∧ gx ([] ++ wtail a b s) s = a ∧ gy ([] ++ wtail a b s) s = b := by
  have hc : cl (s : Int) 16 = s := by unfold cl; omega
  have hl := wtail_length a b s
  rw [hc] at hl
  have hk : gok ([] ++ wtail a b s) s = true := by
    simp [gok]
    omega
  have hv : gv ([] ++ wtail a b s) s = a * 18446744073709551616 + b := by
    unfold gv
    rw [if_pos hk, List.nil_append, Int.toNat_natCast, List.take_of_length_le (by omega)]
    unfold wtail
    rw [hc]
    exact bev_tail a b s hs ha hb h
  refine ⟨hk, ?_, ?_⟩
  · unfold gx; rw [hv]; omega
  · unfold gy; rw [hv]; omega

set_option maxRecDepth 100000 in
set_option maxHeartbeats 2000000 in
theorem wideBack_walk (a b k : Nat) (w : World) (ha : a < 18446744073709551616) (hb : b < 18446744073709551616) (hk : k ≤ 255) :
    Calls Try.prog 4 #[wd a b, .int .u8 (k : Int)] w fun e w' => e = .returned (.bool true) ∧ Below w.heap.size w w' := by
  obtain ⟨s, hs⟩ : ∃ s, s = k % 17 := ⟨_, rfl⟩
  have hs16 : s ≤ 16 := by omega
  have r0 : (k : Int) % 17 = (s : Int) := by omega
  have q1 := fun w => low_any (8 * (s : Int)) w
  rw [show cl (8 * (s : Int)) 128 = 8 * s by unfold cl; omega] at q1
  have z1 := low_bytes a b s hs16
  have z2 := lowb_lt (8 * s - 64) (by omega)
  have z3 := lowb_lt (min (8 * s) 64) (by omega)
  generalize lowb (8 * s - 64) = p at *
  generalize lowb (min (8 * s) 64) = q at *
  have q2 := fun w => and_any a b p q w ha hb z2 z3
  have z4 : a &&& p < 18446744073709551616 := Nat.lt_of_le_of_lt Nat.and_le_left ha
  have z5 : b &&& q < 18446744073709551616 := Nat.lt_of_le_of_lt Nat.and_le_left hb
  generalize a &&& p = A at *
  generalize b &&& q = B at *
  have q3 := fun v l w (hB : Bytes w v l) hl => wput_any v l A B s w hB hl z4 z5
  have q4 := back_vals A B s hs16 z4 z5 z1
  have q5 := fun v w (hB : Bytes w v ([] ++ wtail A B s)) => wget_any v ([] ++ wtail A B s) s w hB
  rw [q4.1, q4.2.1, q4.2.2] at q5
  have q6 := q3 (.slice none 0 0) []
  generalize [] ++ wtail A B s = T at *
  unfold wd at *
  have Q1 := hide_ q1
  have Q2 := hide_ q2
  have Q3 := hide_ q6
  have Q5 := hide_ q5
  clear q1 q2 q3 q4 q5 q6 z1 z2 z3 z4 z5 hs
  have r1 : IntKind.i64.wrap (8 * (s : Int)) = 8 * (s : Int) := by rw [IntKind.wrap_i64]; omega
  go_enter Try.func4, Try.ntmps4
  go_wp2_with fail
  have T1 : Hid (Two (w.alloc (.cells #[.int .u64 (a : Int), .int .u64 (b : Int)] 25)) w.heap.size a b) := ⟨by simp [go_sem], by simp [go_sem], by simp [go_sem], by simp [go_sem]⟩
  have HM : Hid (∀ wx, Below (w.heap.size + 1) (w.alloc (.cells #[.int .u64 (a : Int), .int .u64 (b : Int)] 25)) wx → Two wx w.heap.size a b) := fun wx h => T1.out.later (by simpa using h)
  have hB0 : Below (w.heap.size + 1) (w.alloc (.cells #[.int .u64 (a : Int), .int .u64 (b : Int)] 25)) (w.alloc (.cells #[.int .u64 (a : Int), .int .u64 (b : Int)] 25)).drew := (Below.refl _ _).drew
  go_region_with (first | (go_at_call 13; refine (Q1.out _).mono ?_; rintro e w1 ⟨rfl, b1⟩; have hB1 := hB0.trans (b1.mono (by simp)); obtain ⟨d0, d1, g0, g1⟩ := HM.out _ hB1) | (go_at_call 12; refine (Q2.out _).mono ?_; rintro e w2 ⟨rfl, b2⟩; have hB2 := hB1.trans (b2.mono (by have := hB1.size; simpa using this)); obtain ⟨k0, k1, m0, m1⟩ := HM.out _ hB2))
  all_goals
    have t2 : Two w2 w.heap.size a b := HM.out _ hB2
    have T2 := hide_ (t2.set A B)
    have bel2 : Below w.heap.size w w2 := (by go_grown : Below w.heap.size w (w.alloc (.cells #[.int .u64 (a : Int), .int .u64 (b : Int)] 25))).trans (hB2.mono (by omega))
    have bel2' := (bel2.setCell (p := ⟨w.heap.size, 0, none⟩) (Nat.le_refl _) (.int .u64 (A : Int))).setCell (p := ⟨w.heap.size, 1, none⟩) (Nat.le_refl _) (.int .u64 (B : Int))
    obtain ⟨w3, hw3⟩ : ∃ w3, w3 = (w2.setCell ⟨w.heap.size, 0, none⟩ (.int .u64 (A : Int))).setCell ⟨w.heap.size, 1, none⟩ (.int .u64 (B : Int)) := ⟨_, rfl⟩
    rw [← hw3] at T2 bel2'
    simp only [← hw3]
    clear hw3 t2 k0 k1 m0 m1 d0 d1 g0 g1 HM T1 hB0 hB1 hB2 b1 b2 bel2
    obtain ⟨c0, c1, f0, f1⟩ := T2.out
    have s3 := bel2'.size
    go_wp2_with fail
    refine (Q3.out _ (Bytes.nil _) (by decide)).mono ?_
    rintro e w4 ⟨r, rfl, hr, b4⟩
    have c0 := cell_later b4 c0
    have c1 := cell_later b4 c1
    have HR := hide_ hr
    have bel4 := bel2'.trans (b4.mono s3)
    clear hr T2 f0 f1 bel2' b4
    go_wp2_with fail
    refine (Q5.out r _ HR.out).mono ?_
    rintro e w5 ⟨rfl, b5⟩
    have c0 := cell_later b5 c0
    have c1 := cell_later b5 c1
    have bel5 := bel4.trans (b5.mono bel4.size)
    have lt5 := World.block_lt_of_cell? w5 _ c0
    have eA0 : ∀ o : Obj, (w5.alloc o).cell? ⟨w.heap.size, 0, none⟩ = some (.int .u64 (A : Int)) := fun o => cell_later (by go_grown : Below w5.heap.size w5 (w5.alloc o)) c0
    have eA1 : ∀ o : Obj, (w5.alloc o).cell? ⟨w.heap.size, 1, none⟩ = some (.int .u64 (B : Int)) := fun o => cell_later (by go_grown : Below w5.heap.size w5 (w5.alloc o)) c1
    clear HR b5 bel4
    go_wp2_with (go_at_call 5; refine (awake2_any _).mono ?_; rintro e w6 ⟨rfl, b6⟩)
    go_ret
    have s5 := bel5.size
    exact ⟨rfl, (bel5.trans (by go_grown)).trans (b6.mono (by simp; omega))⟩
end Go.Proofs.Ytikooaaigdmjmab
