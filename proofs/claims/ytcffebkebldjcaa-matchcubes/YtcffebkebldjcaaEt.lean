import Derived.Test.YtcffebkebldjcaaEa
import Derived.Test.YtcffebkebldjcaaEc
import Derived.Test.YtcffebkebldjcaaEh
import Derived.Deep.RegionHeld3
import Derived.Deep.RegionWith
import Derived.Deep.MidRow
import Derived.Deep.Cut
namespace Go.Proofs.Ytcffebkebldjcaa
open Go Go.RowKit
set_option linter.unusedVariables false
set_option linter.unusedSimpArgs false

set_option maxRecDepth 100000 in
set_option maxHeartbeats 4000000 in
theorem rone_any (a b : Nat) (v : Value) (vs : List Nat) (w : World) (hC : Cells w v 2 vs.length (wdc (lo vs))) :
    Calls Try.prog 49 #[.agg #[.int .u64 (a : Int), .int .u64 (b : Int)], v] w fun e w' => e = .returned (.bool (vs.any (fun v => decide (0 = a) && decide (v = b)) || vs.isEmpty)) ∧ Below w.heap.size w w' := by
  have hcc := hC
  obtain ⟨hxl, s, cap, rfl, hr⟩ := hcc
  obtain ⟨-, hm, -, hat⟩ := Cells.at hC
  have H := hide_ hat
  unfold maxLen at hm
  have A0 := hide_ (AB.at0 w 35 [.int .u64 (a : Int), .int .u64 (b : Int)])
  have B0 := hide_ (below1 w (.cells #[.int .u64 (a : Int), .int .u64 (b : Int)] 35))
  clear hat hC hr hxl
  obtain ⟨z0, hz0⟩ : ∃ z0 : Nat, z0 = 0 := ⟨0, rfl⟩
  have HZ0 := hide_ hz0
  have he : (fun v : Nat => decide (0 = a) && decide (v = b)) = (fun v : Nat => decide (z0 = a) && decide (v = b)) := by rw [hz0]
  rw [he]
  clear he hz0
  obtain ⟨RR, hRR⟩ : ∃ RR, (vs.any (fun v : Nat => decide (z0 = a) && decide (v = b)) || vs.isEmpty) = RR := ⟨_, rfl⟩
  rw [hRR]
  have HRR := hide_ hRR
  clear hRR
  go_enter Try.func49, Try.ntmps49
  go_wp2
  go_loopw [5] (fun i wr => ∃ k : Nat, k ≤ vs.length ∧ i = .int .i64 k ∧ Hid ((vs.take k).any (fun v => decide (z0 = a) && decide (v = b)) = false) ∧ Below (w.alloc (.cells #[.int .u64 (a : Int), .int .u64 (b : Int)] 35)).heap.size (w.alloc (.cells #[.int .u64 (a : Int), .int .u64 (b : Int)] 35)) wr) (fun i _ => vs.length - (intOf i).toNat)
  case atStart => exact ⟨0, Nat.zero_le _, rfl, rfl, Below.refl _ _⟩
  case round =>
    obtain ⟨k, hk, rfl, HT, hb⟩ := hrel
    have kb := B0.out.trans (hb.mono B0.out.size)
    by_cases hlt : k < vs.length
    · obtain ⟨z, hz⟩ : ∃ z, vs[k]? = some z := ⟨_, List.getElem?_eq_getElem hlt⟩
      obtain ⟨e0, e1⟩ := lo_cell hz
      obtain ⟨q, off, rfl, c0⟩ := H.out _ _ e0
      obtain ⟨q', off', e', c1⟩ := H.out _ _ e1
      cases e'
      have c0 : w.cell? ⟨q, off + k * 2, none⟩ = some (.int .u64 (z0 : Int)) := by rw [HZ0.out]; exact c0
      have c0 := cell_later kb c0
      have c1 := cell_later kb c1
      rw [← Nat.add_assoc] at c1
      obtain ⟨d0, d1, -⟩ := (A0.out.later hb).two
      have HZ := hide_ hz
      clear hz e0 e1
      have hlt' : (k : Int) < (vs.length : Int) := by omega
      by_cases e1 : z0 = a
      · subst e1
        by_cases e2 : z = b
        · subst e2
          go_wp2_with fail
          go_quiet (fail)
          go_wp2
          go_ret
          have e3 : RR = true := by
            rw [← HRR.out, Bool.or_eq_true]
            left
            rw [List.any_eq_true]
            exact ⟨z, List.mem_of_getElem? HZ.out, by simp⟩
          rw [e3]
          exact ⟨rfl, below_drewN kb _⟩
        · have g2 : (((z : Nat) : Int) == (b : Int)) = false := by simp; omega
          have HE := hide_ e2
          clear e2
          go_wp2_with fail
          go_quiet (fail)
          go_wp2
          go_roundw
          case rel => exact ⟨k + 1, by omega, by go_num, by show _ = _; rw [List.take_add_one, HZ.out, List.any_append, HT.out]; simp [HE.out], below_drewN hb _⟩
          case measure => simp [intOf]; omega
      · have g1 : (((z0 : Nat) : Int) == (a : Int)) = false := by simp; omega
        have HE := hide_ e1
        clear e1
        go_wp2_with fail
        go_quiet (fail)
        go_wp2
        go_roundw
        case rel => exact ⟨k + 1, by omega, by go_num, by show _ = _; rw [List.take_add_one, HZ.out, List.any_append, HT.out]; simp [HE.out], below_drewN hb _⟩
        case measure => simp [intOf]; omega
    · have hlt' : ¬ (k : Int) < (vs.length : Int) := by omega
      have e := HT.out
      rw [List.take_of_length_le (by omega)] at e
      have HEE := hide_ e
      clear HT H e
      cases vs with
      | nil =>
        go_wp2
        go_ret
        refine ⟨?_, kb⟩
        rw [← HRR.out, HEE.out]
        rfl
      | cons x xs =>
        have g0 : (((x :: xs).length : Nat) : Int) ≠ 0 := by simp; omega
        generalize (x :: xs).length = n at *
        have g1 : ((n : Int) == 0) = false := by simpa using g0
        go_wp2
        go_ret
        refine ⟨?_, kb⟩
        rw [← HRR.out, HEE.out]
        rfl


end Go.Proofs.Ytcffebkebldjcaa
