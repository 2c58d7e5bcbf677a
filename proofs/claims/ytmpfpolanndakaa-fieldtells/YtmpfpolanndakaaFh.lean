import Derived.Test.YtmpfpolanndakaaFg
namespace Go.Proofs.Ytmpfpolanndakaa
open Go Go.RowKit
set_option linter.unusedVariables false
set_option linter.unusedSimpArgs false

theorem ether_new (l : List Nat) (cs : Array Value) (w : World) (g n m : Nat) (hn : n = l.length) (hm : m = l.length) (hg : g = w.heap.size) (hc : cs = (u64s l).toArray) (hl : l.length ≤ 1000000) :
    Calls Try.prog 48 #[.slice (some ⟨g, 0, none⟩) n m] (w.alloc (.cells cs 37)) fun e w' => ∃ ua uc, e = .returned (.agg #[.int .i64 4, .slice ua l.length uc]) ∧ Cells w' (.slice ua l.length uc) 2 l.length (wdc (lo l)) ∧ Below w.heap.size w w' := by
  subst hg hc hn hm
  refine (ether_any _ l (w.alloc (.cells (u64s l).toArray 37)) (Cells.fresh w (u64s l) 37 _ 1 l.length rfl (by simp [u64s]) (by unfold maxLen; omega)) hl).mono ?_
  rintro e w' ⟨u, rfl, ho, hb⟩
  obtain ⟨ua, uc, rfl⟩ := own_slice ho
  exact ⟨ua, uc, rfl, Cells.ofOwn ho, (by go_grown : Below w.heap.size w (w.alloc (.cells (u64s l).toArray 37))).trans (hb.mono (by simp))⟩
theorem proto_new (n : Nat) (w : World) :
    Calls Try.prog 49 #[.int .u64 (n : Int)] w fun e w' => ∃ ua uc, e = .returned (.agg #[.int .i64 9, .slice ua 1 uc]) ∧ Cells w' (.slice ua 1 uc) 2 1 (wdc (lo [n])) ∧ Below w.heap.size w w' := by
  refine (proto_any n w).mono ?_
  rintro e w' ⟨u, rfl, ho, hb⟩
  obtain ⟨h0, a, c, rfl, r⟩ := ho
  exact ⟨a, c, rfl, ⟨h0, a, c, rfl, r⟩, hb⟩

set_option maxRecDepth 100000 in
set_option maxHeartbeats 2000000 in
theorem rneeds_6 (w : World) :
    Calls Try.prog 25 #[.int .i64 6] w fun e w' => ∃ u, e = .returned u ∧ NeedsAt w' u (nd 6) ∧ Below w.heap.size w w' := by
  go_enter Try.func25, Try.ntmps25
  go_wp2
  go_ret
  exact ⟨_, rfl, NeedsAt.one w 5 [] none 0 _ rfl (Cells.nil _ _), by go_grown⟩

set_option maxRecDepth 100000 in
set_option maxHeartbeats 2000000 in
theorem rneeds_7 (w : World) :
    Calls Try.prog 25 #[.int .i64 7] w fun e w' => ∃ u, e = .returned u ∧ NeedsAt w' u (nd 7) ∧ Below w.heap.size w w' := by
  go_enter Try.func25, Try.ntmps25
  go_wp2_with (go_at_call 48; refine (ether_new [2048, 34525] _ _ _ _ _ (by rfl) (by rfl) (by rfl) (by rfl) (by decide)).mono ?_; rintro e w1 ⟨ua, uc, rfl, ho1, hb1⟩)
  go_ret
  exact ⟨_, rfl, NeedsAt.one w1 4 [2048, 34525] ua uc _ rfl ho1, hb1.alloc hb1.size _⟩

set_option maxRecDepth 100000 in
set_option maxHeartbeats 2000000 in
theorem rneeds_8 (w : World) :
    Calls Try.prog 25 #[.int .i64 8] w fun e w' => ∃ u, e = .returned u ∧ NeedsAt w' u (nd 8) ∧ Below w.heap.size w w' := by
  go_enter Try.func25, Try.ntmps25
  go_wp2_with (go_at_call 48; refine (ether_new [2048, 34525] _ _ _ _ _ (by rfl) (by rfl) (by rfl) (by rfl) (by decide)).mono ?_; rintro e w1 ⟨ua, uc, rfl, ho1, hb1⟩)
  go_ret
  exact ⟨_, rfl, NeedsAt.one w1 4 [2048, 34525] ua uc _ rfl ho1, hb1.alloc hb1.size _⟩

set_option maxRecDepth 100000 in
set_option maxHeartbeats 2000000 in
theorem rneeds_9 (w : World) :
    Calls Try.prog 25 #[.int .i64 9] w fun e w' => ∃ u, e = .returned u ∧ NeedsAt w' u (nd 9) ∧ Below w.heap.size w w' := by
  go_enter Try.func25, Try.ntmps25
  go_wp2_with (go_at_call 48; refine (ether_new [2048, 34525] _ _ _ _ _ (by rfl) (by rfl) (by rfl) (by rfl) (by decide)).mono ?_; rintro e w1 ⟨ua, uc, rfl, ho1, hb1⟩)
  go_ret
  exact ⟨_, rfl, NeedsAt.one w1 4 [2048, 34525] ua uc _ rfl ho1, hb1.alloc hb1.size _⟩

set_option maxRecDepth 100000 in
set_option maxHeartbeats 2000000 in
theorem rneeds_10 (w : World) :
    Calls Try.prog 25 #[.int .i64 10] w fun e w' => ∃ u, e = .returned u ∧ NeedsAt w' u (nd 10) ∧ Below w.heap.size w w' := by
  go_enter Try.func25, Try.ntmps25
  go_wp2_with (go_at_call 48; refine (ether_new [2048] _ _ _ _ _ (by rfl) (by rfl) (by rfl) (by rfl) (by decide)).mono ?_; rintro e w1 ⟨ua, uc, rfl, ho1, hb1⟩)
  go_ret
  exact ⟨_, rfl, NeedsAt.one w1 4 [2048] ua uc _ rfl ho1, hb1.alloc hb1.size _⟩

set_option maxRecDepth 100000 in
set_option maxHeartbeats 2000000 in
theorem rneeds_11 (w : World) :
    Calls Try.prog 25 #[.int .i64 11] w fun e w' => ∃ u, e = .returned u ∧ NeedsAt w' u (nd 11) ∧ Below w.heap.size w w' := by
  go_enter Try.func25, Try.ntmps25
  go_wp2_with (go_at_call 48; refine (ether_new [2048] _ _ _ _ _ (by rfl) (by rfl) (by rfl) (by rfl) (by decide)).mono ?_; rintro e w1 ⟨ua, uc, rfl, ho1, hb1⟩)
  go_ret
  exact ⟨_, rfl, NeedsAt.one w1 4 [2048] ua uc _ rfl ho1, hb1.alloc hb1.size _⟩

set_option maxRecDepth 100000 in
set_option maxHeartbeats 2000000 in
theorem rneeds_12 (w : World) :
    Calls Try.prog 25 #[.int .i64 12] w fun e w' => ∃ u, e = .returned u ∧ NeedsAt w' u (nd 12) ∧ Below w.heap.size w w' := by
  go_enter Try.func25, Try.ntmps25
  go_wp2_with (first | (go_at_call 48; refine (ether_new [2048, 34525] _ _ _ _ _ (by rfl) (by rfl) (by rfl) (by rfl) (by decide)).mono ?_; rintro e w1 ⟨ua, uc, rfl, ho1, hb1⟩) | (go_at_call 49; refine (proto_new 6 _).mono ?_; rintro e w2 ⟨ub, ud, rfl, ho2, hb2⟩))
  go_ret
  exact ⟨_, rfl, NeedsAt.two w2 4 9 [2048, 34525] [6] ua ub uc ud _ rfl (ho1.later hb2) ho2, (hb1.trans (hb2.mono hb1.size)).alloc (Nat.le_trans hb1.size hb2.size) _⟩

set_option maxRecDepth 100000 in
set_option maxHeartbeats 2000000 in
theorem rneeds_13 (w : World) :
    Calls Try.prog 25 #[.int .i64 13] w fun e w' => ∃ u, e = .returned u ∧ NeedsAt w' u (nd 13) ∧ Below w.heap.size w w' := by
  go_enter Try.func25, Try.ntmps25
  go_wp2_with (first | (go_at_call 48; refine (ether_new [2048, 34525] _ _ _ _ _ (by rfl) (by rfl) (by rfl) (by rfl) (by decide)).mono ?_; rintro e w1 ⟨ua, uc, rfl, ho1, hb1⟩) | (go_at_call 49; refine (proto_new 6 _).mono ?_; rintro e w2 ⟨ub, ud, rfl, ho2, hb2⟩))
  go_ret
  exact ⟨_, rfl, NeedsAt.two w2 4 9 [2048, 34525] [6] ua ub uc ud _ rfl (ho1.later hb2) ho2, (hb1.trans (hb2.mono hb1.size)).alloc (Nat.le_trans hb1.size hb2.size) _⟩

set_option maxRecDepth 100000 in
set_option maxHeartbeats 2000000 in
theorem rneeds_14 (w : World) :
    Calls Try.prog 25 #[.int .i64 14] w fun e w' => ∃ u, e = .returned u ∧ NeedsAt w' u (nd 14) ∧ Below w.heap.size w w' := by
  go_enter Try.func25, Try.ntmps25
  go_wp2_with (first | (go_at_call 48; refine (ether_new [2048, 34525] _ _ _ _ _ (by rfl) (by rfl) (by rfl) (by rfl) (by decide)).mono ?_; rintro e w1 ⟨ua, uc, rfl, ho1, hb1⟩) | (go_at_call 49; refine (proto_new 17 _).mono ?_; rintro e w2 ⟨ub, ud, rfl, ho2, hb2⟩))
  go_ret
  exact ⟨_, rfl, NeedsAt.two w2 4 9 [2048, 34525] [17] ua ub uc ud _ rfl (ho1.later hb2) ho2, (hb1.trans (hb2.mono hb1.size)).alloc (Nat.le_trans hb1.size hb2.size) _⟩

set_option maxRecDepth 100000 in
set_option maxHeartbeats 2000000 in
theorem rneeds_15 (w : World) :
    Calls Try.prog 25 #[.int .i64 15] w fun e w' => ∃ u, e = .returned u ∧ NeedsAt w' u (nd 15) ∧ Below w.heap.size w w' := by
  go_enter Try.func25, Try.ntmps25
  go_wp2_with (first | (go_at_call 48; refine (ether_new [2048, 34525] _ _ _ _ _ (by rfl) (by rfl) (by rfl) (by rfl) (by decide)).mono ?_; rintro e w1 ⟨ua, uc, rfl, ho1, hb1⟩) | (go_at_call 49; refine (proto_new 17 _).mono ?_; rintro e w2 ⟨ub, ud, rfl, ho2, hb2⟩))
  go_ret
  exact ⟨_, rfl, NeedsAt.two w2 4 9 [2048, 34525] [17] ua ub uc ud _ rfl (ho1.later hb2) ho2, (hb1.trans (hb2.mono hb1.size)).alloc (Nat.le_trans hb1.size hb2.size) _⟩

set_option maxRecDepth 100000 in
set_option maxHeartbeats 2000000 in
theorem rneeds_16 (w : World) :
    Calls Try.prog 25 #[.int .i64 16] w fun e w' => ∃ u, e = .returned u ∧ NeedsAt w' u (nd 16) ∧ Below w.heap.size w w' := by
  go_enter Try.func25, Try.ntmps25
  go_wp2_with (first | (go_at_call 48; refine (ether_new [2048] _ _ _ _ _ (by rfl) (by rfl) (by rfl) (by rfl) (by decide)).mono ?_; rintro e w1 ⟨ua, uc, rfl, ho1, hb1⟩) | (go_at_call 49; refine (proto_new 1 _).mono ?_; rintro e w2 ⟨ub, ud, rfl, ho2, hb2⟩))
  go_ret
  exact ⟨_, rfl, NeedsAt.two w2 4 9 [2048] [1] ua ub uc ud _ rfl (ho1.later hb2) ho2, (hb1.trans (hb2.mono hb1.size)).alloc (Nat.le_trans hb1.size hb2.size) _⟩

set_option maxRecDepth 100000 in
set_option maxHeartbeats 2000000 in
theorem rneeds_17 (w : World) :
    Calls Try.prog 25 #[.int .i64 17] w fun e w' => ∃ u, e = .returned u ∧ NeedsAt w' u (nd 17) ∧ Below w.heap.size w w' := by
  go_enter Try.func25, Try.ntmps25
  go_wp2_with (first | (go_at_call 48; refine (ether_new [2048] _ _ _ _ _ (by rfl) (by rfl) (by rfl) (by rfl) (by decide)).mono ?_; rintro e w1 ⟨ua, uc, rfl, ho1, hb1⟩) | (go_at_call 49; refine (proto_new 1 _).mono ?_; rintro e w2 ⟨ub, ud, rfl, ho2, hb2⟩))
  go_ret
  exact ⟨_, rfl, NeedsAt.two w2 4 9 [2048] [1] ua ub uc ud _ rfl (ho1.later hb2) ho2, (hb1.trans (hb2.mono hb1.size)).alloc (Nat.le_trans hb1.size hb2.size) _⟩

set_option maxRecDepth 100000 in
set_option maxHeartbeats 2000000 in
theorem rneeds_18 (w : World) :
    Calls Try.prog 25 #[.int .i64 18] w fun e w' => ∃ u, e = .returned u ∧ NeedsAt w' u (nd 18) ∧ Below w.heap.size w w' := by
  go_enter Try.func25, Try.ntmps25
  go_wp2_with (go_at_call 48; refine (ether_new [2054] _ _ _ _ _ (by rfl) (by rfl) (by rfl) (by rfl) (by decide)).mono ?_; rintro e w1 ⟨ua, uc, rfl, ho1, hb1⟩)
  go_ret
  exact ⟨_, rfl, NeedsAt.one w1 4 [2054] ua uc _ rfl ho1, hb1.alloc hb1.size _⟩

set_option maxRecDepth 100000 in
set_option maxHeartbeats 2000000 in
theorem rneeds_19 (w : World) :
    Calls Try.prog 25 #[.int .i64 19] w fun e w' => ∃ u, e = .returned u ∧ NeedsAt w' u (nd 19) ∧ Below w.heap.size w w' := by
  go_enter Try.func25, Try.ntmps25
  go_wp2_with (go_at_call 48; refine (ether_new [2054] _ _ _ _ _ (by rfl) (by rfl) (by rfl) (by rfl) (by decide)).mono ?_; rintro e w1 ⟨ua, uc, rfl, ho1, hb1⟩)
  go_ret
  exact ⟨_, rfl, NeedsAt.one w1 4 [2054] ua uc _ rfl ho1, hb1.alloc hb1.size _⟩

set_option maxRecDepth 100000 in
set_option maxHeartbeats 2000000 in
theorem rneeds_20 (w : World) :
    Calls Try.prog 25 #[.int .i64 20] w fun e w' => ∃ u, e = .returned u ∧ NeedsAt w' u (nd 20) ∧ Below w.heap.size w w' := by
  go_enter Try.func25, Try.ntmps25
  go_wp2_with (go_at_call 48; refine (ether_new [2054] _ _ _ _ _ (by rfl) (by rfl) (by rfl) (by rfl) (by decide)).mono ?_; rintro e w1 ⟨ua, uc, rfl, ho1, hb1⟩)
  go_ret
  exact ⟨_, rfl, NeedsAt.one w1 4 [2054] ua uc _ rfl ho1, hb1.alloc hb1.size _⟩

set_option maxRecDepth 100000 in
set_option maxHeartbeats 2000000 in
theorem rneeds_21 (w : World) :
    Calls Try.prog 25 #[.int .i64 21] w fun e w' => ∃ u, e = .returned u ∧ NeedsAt w' u (nd 21) ∧ Below w.heap.size w w' := by
  go_enter Try.func25, Try.ntmps25
  go_wp2_with (go_at_call 48; refine (ether_new [34525] _ _ _ _ _ (by rfl) (by rfl) (by rfl) (by rfl) (by decide)).mono ?_; rintro e w1 ⟨ua, uc, rfl, ho1, hb1⟩)
  go_ret
  exact ⟨_, rfl, NeedsAt.one w1 4 [34525] ua uc _ rfl ho1, hb1.alloc hb1.size _⟩

set_option maxRecDepth 100000 in
set_option maxHeartbeats 2000000 in
theorem rneeds_22 (w : World) :
    Calls Try.prog 25 #[.int .i64 22] w fun e w' => ∃ u, e = .returned u ∧ NeedsAt w' u (nd 22) ∧ Below w.heap.size w w' := by
  go_enter Try.func25, Try.ntmps25
  go_wp2_with (go_at_call 48; refine (ether_new [34525] _ _ _ _ _ (by rfl) (by rfl) (by rfl) (by rfl) (by decide)).mono ?_; rintro e w1 ⟨ua, uc, rfl, ho1, hb1⟩)
  go_ret
  exact ⟨_, rfl, NeedsAt.one w1 4 [34525] ua uc _ rfl ho1, hb1.alloc hb1.size _⟩

set_option maxRecDepth 100000 in
set_option maxHeartbeats 2000000 in
theorem rneeds_23 (w : World) :
    Calls Try.prog 25 #[.int .i64 23] w fun e w' => ∃ u, e = .returned u ∧ NeedsAt w' u (nd 23) ∧ Below w.heap.size w w' := by
  go_enter Try.func25, Try.ntmps25
  go_wp2_with (go_at_call 48; refine (ether_new [34887, 34888] _ _ _ _ _ (by rfl) (by rfl) (by rfl) (by rfl) (by decide)).mono ?_; rintro e w1 ⟨ua, uc, rfl, ho1, hb1⟩)
  go_ret
  exact ⟨_, rfl, NeedsAt.one w1 4 [34887, 34888] ua uc _ rfl ho1, hb1.alloc hb1.size _⟩

set_option maxRecDepth 100000 in
set_option maxHeartbeats 2000000 in
theorem rneeds_no (f : Int) (w : World) (h : ¬ (6 ≤ f ∧ f ≤ 23)) :
    Calls Try.prog 25 #[.int .i64 f] w fun e w' => ∃ u, e = .returned u ∧ NeedsAt w' u (nd f) ∧ Below w.heap.size w w' := by
  rw [nd_none h]
  have g6 : (f == 6) = false := by simp; omega
  have g7 : (f == 7) = false := by simp; omega
  have g8 : (f == 8) = false := by simp; omega
  have g9 : (f == 9) = false := by simp; omega
  have g10 : (f == 10) = false := by simp; omega
  have g11 : (f == 11) = false := by simp; omega
  have g12 : (f == 12) = false := by simp; omega
  have g13 : (f == 13) = false := by simp; omega
  have g14 : (f == 14) = false := by simp; omega
  have g15 : (f == 15) = false := by simp; omega
  have g16 : (f == 16) = false := by simp; omega
  have g17 : (f == 17) = false := by simp; omega
  have g18 : (f == 18) = false := by simp; omega
  have g19 : (f == 19) = false := by simp; omega
  have g20 : (f == 20) = false := by simp; omega
  have g21 : (f == 21) = false := by simp; omega
  have g22 : (f == 22) = false := by simp; omega
  have g23 : (f == 23) = false := by simp; omega
  clear h
  go_enter Try.func25, Try.ntmps25
  go_wp2
  go_ret
  exact ⟨_, rfl, NeedsAt.nil _, Below.refl _ _⟩

theorem rneeds_any (f : Int) (w : World) :
    Calls Try.prog 25 #[.int .i64 f] w fun e w' => ∃ u, e = .returned u ∧ NeedsAt w' u (nd f) ∧ Below w.heap.size w w' := by
  by_cases h : 6 ≤ f ∧ f ≤ 23
  · obtain rfl | rfl | rfl | rfl | rfl | rfl | rfl | rfl | rfl | rfl | rfl | rfl | rfl | rfl | rfl | rfl | rfl | rfl : f = 6 ∨ f = 7 ∨ f = 8 ∨ f = 9 ∨ f = 10 ∨ f = 11 ∨ f = 12 ∨ f = 13 ∨ f = 14 ∨ f = 15 ∨ f = 16 ∨ f = 17 ∨ f = 18 ∨ f = 19 ∨ f = 20 ∨ f = 21 ∨ f = 22 ∨ f = 23 := by omega
    · exact rneeds_6 w
    · exact rneeds_7 w
    · exact rneeds_8 w
    · exact rneeds_9 w
    · exact rneeds_10 w
    · exact rneeds_11 w
    · exact rneeds_12 w
    · exact rneeds_13 w
    · exact rneeds_14 w
    · exact rneeds_15 w
    · exact rneeds_16 w
    · exact rneeds_17 w
    · exact rneeds_18 w
    · exact rneeds_19 w
    · exact rneeds_20 w
    · exact rneeds_21 w
    · exact rneeds_22 w
    · exact rneeds_23 w
  · exact rneeds_no f w h

end Go.Proofs.Ytmpfpolanndakaa
