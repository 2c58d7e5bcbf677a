import Derived.Test.YtickphnfgaibiabProg
import Derived.Test.YtickphnfgaibiabK
import Derived.Test.YtickphnfgaibiabQ
import Derived.Test.YtickphnfgaibiabR
import Derived.Test.YtickphnfgaibiabS
import Derived.Test.YtickphnfgaibiabT
import Derived.Below
import Derived.BigQuiet
import Derived.BigRegion
import Derived.Deep.QuietTactic
import Derived.Deep.RegionHeld3
import Derived.Deep.RegionLaw
import Derived.Deep.RegionLawGrows
import Derived.Handy
import Derived.Laws.AppendOwn
import Derived.Laws.AppendOwnNone
import Derived.Laws.BitsAllLaws
import Derived.Laws.BitsLemmas
import Derived.Laws.CopyOwn
import Derived.Laws.OwnMore
import Derived.Laws.Rows
import Derived.Laws.StructEq
import Derived.OpenShut
import Derived.ProofKit
import Derived.RegionTactic
import Derived.WalkKit
import Derived.WalkLawsBesides
import Derived.WalkSmall
import Derived.WalkSpells
namespace Go.Proofs.Ytickphnfgaibiab
open Go Go.RowKit
set_option linter.unusedVariables false
set_option linter.unusedSimpArgs false

theorem low_nat (k : Nat) (w : World) (h : k ≤ 128) :
    Calls Try.prog 66 #[.int .i64 (k : Int)] w fun e w' => e = .returned (wd (lowb (k - 64)) (lowb (min k 64))) ∧ Below w.heap.size w w' := by
  have := low_any (k : Int) w
  rwa [show cl (k : Int) 128 = k by unfold cl; omega] at this

theorem low_nat1 (k : Nat) (w : World) (h : k < 128) :
    Calls Try.prog 66 #[.int .i64 ((k : Int) + 1)] w fun e w' => e = .returned (wd (lowb (k + 1 - 64)) (lowb (min (k + 1) 64))) ∧ Below w.heap.size w w' := by
  have := low_any ((k : Int) + 1) w
  rwa [show cl ((k : Int) + 1) 128 = k + 1 by unfold cl; omega] at this

theorem set2 {w : World} {g : Nat} {x y u v : Value} (h0 : w.cell? ⟨g, 0, none⟩ = some x) (h1 : w.cell? ⟨g, 1, none⟩ = some y) :
    (w.setCell ⟨g, 0, none⟩ u).cell? ⟨g, 0, none⟩ = some u ∧ ((w.setCell ⟨g, 0, none⟩ u).setCell ⟨g, 1, none⟩ v).cell? ⟨g, 1, none⟩ = some v := by
  have k0 := World.cell?_setCell_same w ⟨g, 0, none⟩ u h0
  have k1 : (w.setCell ⟨g, 0, none⟩ u).cell? ⟨g, 1, none⟩ = some y := by rw [World.cell?_setCell_other (h := (by simp : (⟨g, 0, none⟩ : Addr) ≠ ⟨g, 1, none⟩))]; exact h1
  exact ⟨k0, World.cell?_setCell_same _ _ _ k1⟩

theorem kept2 (w w3 : World) (a b : Int) (t : TypeId) (h : Below (w.alloc (.cells #[.int .u64 a, .int .u64 b] t)).heap.size (w.alloc (.cells #[.int .u64 a, .int .u64 b] t)) w3) :
    Below w.heap.size w w3 ∧ w3.cell? ⟨w.heap.size, 0, none⟩ = some (.int .u64 a) ∧ w3.cell? ⟨w.heap.size, 1, none⟩ = some (.int .u64 b) ∧ w3.frozen? ⟨w.heap.size, 0, none⟩ = false ∧ w3.frozen? ⟨w.heap.size, 1, none⟩ = false := by
  refine ⟨(by go_grown : Below w.heap.size w (w.alloc (.cells #[.int .u64 a, .int .u64 b] t))).trans (h.mono (by simp)), cell_later h (by simp), cell_later h (by simp), ?_, ?_⟩
  · rw [h.frozen (by simp)]; simp
  · rw [h.frozen (by simp)]; simp

set_option maxHeartbeats 400000 in
theorem bit_out (i : Int) (w : World) (h : i < 0 ∨ 128 ≤ i) :
    Calls Try.prog 51 #[.int .i64 i] w fun e w' => e = .returned (wd 0 0) ∧ Below w.heap.size w w' := by
  unfold wd
  by_cases h1 : i < 0
  · go_enter Try.func51, Try.ntmps51
    go_wp2
    go_returns
    exact ⟨rfl, by go_grown⟩
  · have h2 : 128 ≤ i := by omega
    go_enter Try.func51, Try.ntmps51
    go_wp2
    go_returns
    exact ⟨rfl, by go_grown⟩

set_option maxHeartbeats 400000 in
theorem bit_in (k : Nat) (w : World) (h : k < 128) :
    Calls Try.prog 51 #[.int .i64 (k : Int)] w fun e w' => e = .returned (wd (bh k) (bl k)) ∧ Below w.heap.size w w' := by
  rw [← bit_hi k h, ← bit_lo k h]
  have q1 := lowb_lt (k + 1 - 64) (by omega)
  have q2 := lowb_lt (min (k + 1) 64) (by omega)
  have q3 := lowb_lt (k - 64) (by omega)
  have q4 := lowb_lt (min k 64) (by omega)
  have HA := fun w => low_nat1 k w h
  have HC := fun w => low_nat k w (by omega)
  generalize lowb (k + 1 - 64) = a1 at *
  generalize lowb (min (k + 1) 64) = a2 at *
  generalize lowb (k - 64) = a3 at *
  generalize lowb (min k 64) = a4 at *
  have HL := fun w => less_any a1 a2 a3 a4 w q1 q2 q3 q4
  unfold wd at *
  have HA' := hide_ HA
  have HC' := hide_ HC
  have HL' := hide_ HL
  clear HA HC HL
  have g1 : ¬ (k : Int) < 0 := by omega
  have g2 : ¬ (128 : Int) ≤ (k : Int) := by omega
  go_enter Try.func51, Try.ntmps51
  go_wp2_with fail
  refine (HA'.out _).mono ?_
  rintro e w1 ⟨rfl, b1⟩
  go_wp2_with fail
  refine (HC'.out _).mono ?_
  rintro e w2 ⟨rfl, b2⟩
  go_wp2_with fail
  refine (HL'.out _).mono ?_
  rintro e w3 ⟨rfl, b3⟩
  have B3 := kept2 w w3 0 0 24 (b1.trans ((b2.mono b1.size).trans (b3.mono (Nat.le_trans b1.size b2.size))))
  obtain ⟨bel, c0, c1, f0, f1⟩ := B3
  obtain ⟨s0, s1⟩ := set2 (u := .int .u64 (andn a1 a3 : Nat)) (v := .int .u64 (andn a2 a4 : Nat)) c0 c1
  clear b1 b2 b3
  go_wp2
  exact bodyPost_ret (v := .agg #[.int .u64 (andn a1 a3 : Nat), .int .u64 (andn a2 a4 : Nat)]) (by simp [results, Try.results51, go_sem, s0, s1]) rfl ⟨rfl, (bel.setCell (Nat.le_refl _) _).setCell (Nat.le_refl _) _⟩

set_option maxHeartbeats 400000 in
theorem rbit_out (i : Int) (w : World) (h : i < 0 ∨ 127 < i) :
    Calls Try.prog 83 #[.int .i64 i] w fun e w' => e = .returned (wd 0 0) ∧ Below w.heap.size w w' := by
  unfold wd
  by_cases h1 : i < 0
  · go_enter Try.func83, Try.ntmps83
    go_wp2
    go_returns
    exact ⟨rfl, by go_grown⟩
  · have h2 : 127 < i := by omega
    go_enter Try.func83, Try.ntmps83
    go_wp2
    go_returns
    exact ⟨rfl, by go_grown⟩

set_option maxHeartbeats 400000 in
theorem rbit_lo (k : Nat) (w : World) (h : k < 64) :
    Calls Try.prog 83 #[.int .i64 (k : Int)] w fun e w' => e = .returned (wd (bh k) (bl k)) ∧ Below w.heap.size w w' := by
  have g1 : ¬ (k : Int) < 0 := by omega
  have g2 : ¬ (127 : Int) < (k : Int) := by omega
  have g3 : (k : Int) < 64 := by omega
  have e1 : bh k = 0 := by unfold bh; rw [if_pos h]
  have e2 : IntKind.u64.wrap ((2 : Int) ^ k) = ((bl k : Nat) : Int) := by
    unfold bl; rw [if_pos h, show ((2 : Int) ^ k) = ((2 ^ k : Nat) : Int) by simp, wu64 _ (pow_lt64 k h)]
  rw [e1]
  clear e1
  unfold wd
  go_enter Try.func83, Try.ntmps83
  go_wp2
  go_returns
  exact ⟨rfl, by go_grown⟩

set_option maxHeartbeats 400000 in
theorem rbit_hi (k : Nat) (w : World) (h : ¬ k < 64) (hk : k < 128) :
    Calls Try.prog 83 #[.int .i64 (k : Int)] w fun e w' => e = .returned (wd (bh k) (bl k)) ∧ Below w.heap.size w w' := by
  have g1 : ¬ (k : Int) < 0 := by omega
  have g2 : ¬ (127 : Int) < (k : Int) := by omega
  have g3 : ¬ (k : Int) < 64 := by omega
  have e1 : bl k = 0 := by unfold bl; rw [if_neg h]
  rw [e1]
  clear e1
  have e2 : IntKind.u64.wrap ((2 : Int) ^ (k - 64)) = ((bh k : Nat) : Int) := by
    unfold bh; rw [if_neg h, show ((2 : Int) ^ (k - 64)) = ((2 ^ (k - 64) : Nat) : Int) by simp, wu64 _ (pow_lt64 (k - 64) (by omega))]
  unfold wd
  go_enter Try.func83, Try.ntmps83
  go_wp2
  go_returns
  exact ⟨rfl, by go_grown⟩

/-- the halves of bit i alone, where there is one -/
def bhz (i : Int) : Nat := if 0 ≤ i ∧ i < 128 then bh i.toNat else 0

def blz (i : Int) : Nat := if 0 ≤ i ∧ i < 128 then bl i.toNat else 0

theorem bhz_lt (i : Int) : bhz i < 18446744073709551616 := by
  unfold bhz; split
  · exact bh_lt _ (by omega)
  · omega

theorem blz_lt (i : Int) : blz i < 18446744073709551616 := by
  unfold blz; split
  · exact bl_lt _
  · omega

theorem bhz_nat (k : Nat) (h : k < 128) : bhz (k : Int) = bh k := by unfold bhz; rw [if_pos (by omega)]; simp

theorem blz_nat (k : Nat) (h : k < 128) : blz (k : Int) = bl k := by unfold blz; rw [if_pos (by omega)]; simp

theorem bit_any (i : Int) (w : World) : Calls Try.prog 51 #[.int .i64 i] w fun e w' => e = .returned (wd (bhz i) (blz i)) ∧ Below w.heap.size w w' := by
  by_cases h : 0 ≤ i ∧ i < 128
  · obtain ⟨k, rfl⟩ := Int.eq_ofNat_of_zero_le h.1
    rw [bhz_nat k (by omega), blz_nat k (by omega)]
    exact bit_in k w (by omega)
  · rw [show bhz i = 0 by unfold bhz; rw [if_neg h], show blz i = 0 by unfold blz; rw [if_neg h]]
    exact bit_out i w (by omega)

theorem rbit_any (i : Int) (w : World) : Calls Try.prog 83 #[.int .i64 i] w fun e w' => e = .returned (wd (bhz i) (blz i)) ∧ Below w.heap.size w w' := by
  by_cases h : 0 ≤ i ∧ i < 128
  · obtain ⟨k, rfl⟩ := Int.eq_ofNat_of_zero_le h.1
    rw [bhz_nat k (by omega), blz_nat k (by omega)]
    by_cases hk : k < 64
    · exact rbit_lo k w hk
    · exact rbit_hi k w hk (by omega)
  · rw [show bhz i = 0 by unfold bhz; rw [if_neg h], show blz i = 0 by unfold blz; rw [if_neg h]]
    exact rbit_out i w (by omega)

end Go.Proofs.Ytickphnfgaibiab
