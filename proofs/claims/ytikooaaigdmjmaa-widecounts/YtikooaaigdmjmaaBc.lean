import Derived.Test.YtikooaaigdmjmaaBa
namespace Go.Proofs.Ytikooaaigdmjmaa
open Go Go.RowKit
set_option linter.unusedVariables false
set_option linter.unusedSimpArgs false

set_option maxRecDepth 100000 in
set_option maxHeartbeats 4000000 in
theorem wideCounts_walk (a b c d : Nat) (w : World) (ha : a < 18446744073709551616) (hb : b < 18446744073709551616) (hc : c < 18446744073709551616) (hd : d < 18446744073709551616) :
    Calls Try.prog 8 #[wd a b, wd c d] w fun e w' => e = .returned (.bool true) ∧ Below w.heap.size w w' := by
  have q1 := fun w => many_any a b w ha hb
  have q2 := fun w => many_any c d w hc hd
  have q3 := fun w => or_any a b c d w ha hb hc hd
  have q4 := fun w => many_any (a ||| c) (b ||| d) w (or_lt _ _ ha hc) (or_lt _ _ hb hd)
  have q5 := fun w => and_any a b c d w ha hb hc hd
  have q6 := fun w => many_any (a &&& c) (b &&& d) w (and_lt _ _ ha) (and_lt _ _ hb)
  have q7 := fun w => less_any a b c d w ha hb hc hd
  have q8 := fun w => or_any (andn a c) (andn b d) (a &&& c) (b &&& d) w (andn_lt _ _ ha) (andn_lt _ _ hb) (and_lt _ _ ha) (and_lt _ _ hb)
  have q9 := fun w => xor_any a b c d w ha hb hc hd
  have q10 := fun w => xor_any (a ^^^ c) (b ^^^ d) c d w (xor_lt _ _ ha hc) (xor_lt _ _ hb hd) hc hd
  rw [less_and a c ha hc, less_and b d hb hd] at q8
  rw [xor_xor, xor_xor] at q10
  have s1 := pc_or_and a c ha hc
  have s2 := pc_or_and b d hb hd
  have l1 : pc a + pc b ≤ 128 := by have := pc_le a ha; have := pc_le b hb; omega
  have l2 : pc c + pc d ≤ 128 := by have := pc_le c hc; have := pc_le d hd; omega
  have l3 : pc (a ||| c) + pc (b ||| d) ≤ 128 := by have := pc_le _ (or_lt _ _ ha hc); have := pc_le _ (or_lt _ _ hb hd); omega
  have l4 : pc (a &&& c) + pc (b &&& d) ≤ 128 := by have := pc_le _ (and_lt a c ha); have := pc_le _ (and_lt b d hb); omega
  have hs : (pc a + pc b) + (pc c + pc d) = (pc (a ||| c) + pc (b ||| d)) + (pc (a &&& c) + pc (b &&& d)) := by omega
  clear s1 s2
  generalize pc a + pc b = m1 at *
  generalize pc c + pc d = m2 at *
  generalize pc (a ||| c) + pc (b ||| d) = m3 at *
  generalize pc (a &&& c) + pc (b &&& d) = m4 at *
  generalize a &&& c = n1 at *
  generalize b &&& d = n2 at *
  generalize a ||| c = o1 at *
  generalize b ||| d = o2 at *
  generalize a ^^^ c = x1 at *
  generalize b ^^^ d = x2 at *
  generalize andn a c = t1 at *
  generalize andn b d = t2 at *
  unfold wd at *
  have Q1 := hide_ q1
  have Q2 := hide_ q2
  have Q3 := hide_ q3
  have Q4 := hide_ q4
  have Q5 := hide_ q5
  have Q6 := hide_ q6
  have Q7 := hide_ q7
  have Q8 := hide_ q8
  have Q9 := hide_ q9
  have Q10 := hide_ q10
  clear q1 q2 q3 q4 q5 q6 q7 q8 q9 q10
  obtain ⟨t, r1, r2⟩ : ∃ t : Int, IntKind.i64.wrap ((m1 : Int) + (m2 : Int)) = t ∧ IntKind.i64.wrap ((m3 : Int) + (m4 : Int)) = t := ⟨_, rfl, by rw [show ((m3 : Int) + (m4 : Int)) = (m1 : Int) + (m2 : Int) by omega]⟩
  clear hs l1 l2 l3 l4
  go_enter Try.func8, Try.ntmps8
  go_wp2_with fail
  go_region_held3 (fun w' => w'.cell? ⟨w.heap.size, 0, none⟩ = some (.int .u64 (a : Int)) ∧ w'.cell? ⟨w.heap.size, 1, none⟩ = some (.int .u64 (b : Int)) ∧ w'.cell? ⟨w.heap.size + 1, 0, none⟩ = some (.int .u64 (c : Int)) ∧ w'.cell? ⟨w.heap.size + 1, 1, none⟩ = some (.int .u64 (d : Int)) ∧ Below w.heap.size w w')
    (first | (exact keep2 (by assumption) (Nat.le_refl _) (by assumption)) | (exact ⟨by simp [go_sem], by simp [go_sem], by simp [go_sem], by simp [go_sem], by go_grown⟩))
    (first | (go_at_call_of 28 (Value.int IntKind.u64 (a : Int)); refine (Q1.out _).mono ?_; rintro e w' ⟨rfl, hb⟩) | (go_at_call_of 28 (Value.int IntKind.u64 (c : Int)); refine (Q2.out _).mono ?_; rintro e w' ⟨rfl, hb⟩) | (go_at_call_of 28 (Value.int IntKind.u64 (o1 : Int)); refine (Q4.out _).mono ?_; rintro e w' ⟨rfl, hb⟩) | (go_at_call_of 28 (Value.int IntKind.u64 (n1 : Int)); refine (Q6.out _).mono ?_; rintro e w' ⟨rfl, hb⟩) | (go_at_call_of 20 (Value.int IntKind.u64 (a : Int)); refine (Q3.out _).mono ?_; rintro e w' ⟨rfl, hb⟩) | (go_at_call_of 20 (Value.int IntKind.u64 (t1 : Int)); refine (Q8.out _).mono ?_; rintro e w' ⟨rfl, hb⟩) | (go_at_call 18; refine (Q5.out _).mono ?_; rintro e w' ⟨rfl, hb⟩) | (go_at_call 24; refine (Q7.out _).mono ?_; rintro e w' ⟨rfl, hb⟩) | (go_at_call_of 22 (Value.int IntKind.u64 (a : Int)); refine (Q9.out _).mono ?_; rintro e w' ⟨rfl, hb⟩) | (go_at_call_of 22 (Value.int IntKind.u64 (x1 : Int)); refine (Q10.out _).mono ?_; rintro e w' ⟨rfl, hb⟩) | (go_at_call 30; refine (awake2_any _).mono ?_; rintro e w' ⟨rfl, hb⟩))
  rename_i hH
  have bel := hH.2.2.2.2
  clear hH
  go_wp2
  go_ret
  exact ⟨rfl, bel⟩

end Go.Proofs.Ytikooaaigdmjmaa
