import Derived.Test.YtcfoieaejpdleaaNu
import Derived.Deep.RegionHeld3
import Derived.Deep.RegionWith
import Derived.Deep.MidRow
import Derived.Deep.Cut
import Derived.WalkMore
namespace Go.Proofs.Ytcfoieaejpdleaa
open Go Go.RowKit
set_option linter.unusedVariables false
set_option linter.unusedSimpArgs false
attribute [local go_sem] Oper.semAt_some

theorem takeR {P : Program} {ops : Array Oper} {Q : Exit → Act → World → Prop} {S : World → Prop} {md : Region.Mode} {fuel : Nat} {listed : Array Bool} {a : Act} {w : World} {i : Nat} {oi : Oper} {v : Value} (hi : ops[i]? = some oi)
    (hs : Region.noSelect ops = true) (hf : Region.free md ops listed i = true) (hr : (Region.ready md ops listed).contains i = true)
    (d : Option Tmp) (hd : oi.dst = d) (hy : YieldsIf P ops S oi v a) (hQ : ∀ c a w, Q (.panic c) (a.put d v) w → Q (.panic c) a w) (h0 : S w)
    (h : wpAnyH P md ops Q S fuel (listed.setIfInBounds i true) (a.put d v) w) : wpAnyH P md ops Q S (fuel + 1) listed a w := by
  subst hd
  exact wpAnyH_take hi hs hf hr hQ hy h0 h
theorem be2_pos {l : List Int} (hl : isB l) (i : Nat) : 0 ≤ be2 l i := by
  unfold be2
  have h1 := isB_getD hl i
  have h2 := isB_getD hl (i + 1)
  split <;> omega
set_option maxRecDepth 100000 in
set_option maxHeartbeats 8000000 in
theorem says_all (v : Value) (b : List Int) (w : World) (hB : Bytes w v b) (h : 8 ≤ b.length) (hn : be2 b 2 < 8) :
    Calls Try.prog 25 #[v] w fun e w' => e = .returned (.tuple #[.int .i64 b.length, .bool true]) ∧ Below w.heap.size w w' := by
  obtain ⟨ao, cap, rfl⟩ := hB.short
  have hm := hB.big
  have h' : ¬ (b.length : Int) < 8 := by omega
  have i2 : (2 : Int) < (b.length : Int) := by omega
  have i3 : (3 : Int) < (b.length : Int) := by omega
  have j2 : 2 < b.length := by omega
  have j3 : 3 < b.length := by omega
  obtain ⟨-, -, hib, hat⟩ := Bytes.at hB
  obtain ⟨bq, off, rfl, c2⟩ := hat 2 _ (getD_some (by omega))
  obtain ⟨_, _, e1, c3⟩ := hat 3 _ (getD_some (by omega))
  cases e1
  obtain ⟨n2, m2⟩ := isB_getD hib 2
  obtain ⟨n3, m3⟩ := isB_getD hib 3
  have HC2 := hide_ (fun W (hW : Below w.heap.size w W) => cell_later hW c2)
  have HC3 := hide_ (fun W (hW : Below w.heap.size w W) => cell_later hW c3)
  have hbe : be2 b 2 = b.getD 2 0 * 256 + b.getD 3 0 := if_pos (by omega)
  rw [hbe] at hn
  clear hat c2 c3 hib hbe hB
  generalize b.getD 2 0 = z2 at *
  generalize b.getD 3 0 = z3 at *
  have hw2 : IntKind.i64.wrap z2 = z2 := by rw [IntKind.wrap_i64]; omega
  have hw3 : IntKind.i64.wrap z3 = z3 := by rw [IntKind.wrap_i64]; omega
  have hw4 : IntKind.i64.wrap (z2 * 256) = z2 * 256 := by rw [IntKind.wrap_i64]; omega
  have hw5 : IntKind.i64.wrap (z2 * 256 + z3) = z2 * 256 + z3 := by rw [IntKind.wrap_i64]; omega
  clear h
  go_enter Try.func25, Try.ntmps25
  go_upto_region 3 with fail
  refine wp_region_held_drew (S := (fun w' => Below w.heap.size w w')) (by kernel_rfl) ((Below.refl _ _).drew) (fun hHeld => ?_)
  generalize w.drew = D at *
  refine takeR (i := 0) (v := ?_) rfl (by kernel_rfl) (by kernel_rfl) (by kernel_rfl) (some 8) rfl (Or.inl ⟨by rfl, ?_⟩) (fun _ _ _ h => h) (by assumption) ?_
  rotate_left
  · intro w hSw; (try dsimp only at hSw); go_simp; (try with_reducible rfl)
  simp only [Act.put, List.setIfInBounds_toArray, List.set_cons_zero, List.set_cons_succ]
  refine takeR (i := 1) (v := ?_) rfl (by kernel_rfl) (by kernel_rfl) (by kernel_rfl) (some 9) rfl (Or.inl ⟨by rfl, ?_⟩) (fun _ _ _ h => h) (by assumption) ?_
  rotate_left
  · intro w hSw; (try dsimp only at hSw); go_simp; (try with_reducible rfl)
  simp only [Act.put, List.setIfInBounds_toArray, List.set_cons_zero, List.set_cons_succ]
  refine takeR (i := 2) (v := ?_) rfl (by kernel_rfl) (by kernel_rfl) (by kernel_rfl) (some 10) rfl (Or.inl ⟨by rfl, ?_⟩) (fun _ _ _ h => h) (by assumption) ?_
  rotate_left
  · intro w hSw; (try dsimp only at hSw); have cc := HC2.out _ hSw; go_simp; (try with_reducible rfl)
  simp only [Act.put, List.setIfInBounds_toArray, List.set_cons_zero, List.set_cons_succ]
  refine takeR (i := 3) (v := ?_) rfl (by kernel_rfl) (by kernel_rfl) (by kernel_rfl) (some 11) rfl (Or.inl ⟨by rfl, ?_⟩) (fun _ _ _ h => h) (by assumption) ?_
  rotate_left
  · intro w hSw; (try dsimp only at hSw); go_simp; (try with_reducible rfl)
  simp only [Act.put, List.setIfInBounds_toArray, List.set_cons_zero, List.set_cons_succ]
  refine takeR (i := 4) (v := ?_) rfl (by kernel_rfl) (by kernel_rfl) (by kernel_rfl) (some 12) rfl (Or.inl ⟨by rfl, ?_⟩) (fun _ _ _ h => h) (by assumption) ?_
  rotate_left
  · intro w hSw; (try dsimp only at hSw); go_simp; (try with_reducible rfl)
  simp only [Act.put, List.setIfInBounds_toArray, List.set_cons_zero, List.set_cons_succ]
  refine takeR (i := 5) (v := ?_) rfl (by kernel_rfl) (by kernel_rfl) (by kernel_rfl) (some 13) rfl (Or.inl ⟨by rfl, ?_⟩) (fun _ _ _ h => h) (by assumption) ?_
  rotate_left
  · intro w hSw; (try dsimp only at hSw); go_simp; (try with_reducible rfl)
  simp only [Act.put, List.setIfInBounds_toArray, List.set_cons_zero, List.set_cons_succ]
  refine takeR (i := 6) (v := ?_) rfl (by kernel_rfl) (by kernel_rfl) (by kernel_rfl) (some 14) rfl (Or.inl ⟨by rfl, ?_⟩) (fun _ _ _ h => h) (by assumption) ?_
  rotate_left
  · intro w hSw; (try dsimp only at hSw); go_simp; (try with_reducible rfl)
  simp only [Act.put, List.setIfInBounds_toArray, List.set_cons_zero, List.set_cons_succ]
  refine takeR (i := 7) (v := ?_) rfl (by kernel_rfl) (by kernel_rfl) (by kernel_rfl) (some 15) rfl (Or.inl ⟨by rfl, ?_⟩) (fun _ _ _ h => h) (by assumption) ?_
  rotate_left
  · intro w hSw; (try dsimp only at hSw); have cc := HC3.out _ hSw; go_simp; (try with_reducible rfl)
  simp only [Act.put, List.setIfInBounds_toArray, List.set_cons_zero, List.set_cons_succ]
  refine takeR (i := 8) (v := ?_) rfl (by kernel_rfl) (by kernel_rfl) (by kernel_rfl) (some 16) rfl (Or.inl ⟨by rfl, ?_⟩) (fun _ _ _ h => h) (by assumption) ?_
  rotate_left
  · intro w hSw; (try dsimp only at hSw); go_simp; (try with_reducible rfl)
  simp only [Act.put, List.setIfInBounds_toArray, List.set_cons_zero, List.set_cons_succ]
  refine takeR (i := 9) (v := ?_) rfl (by kernel_rfl) (by kernel_rfl) (by kernel_rfl) (some 17) rfl (Or.inl ⟨by rfl, ?_⟩) (fun _ _ _ h => h) (by assumption) ?_
  rotate_left
  · intro w hSw; (try dsimp only at hSw); go_simp; (try with_reducible rfl)
  simp only [Act.put, List.setIfInBounds_toArray, List.set_cons_zero, List.set_cons_succ]
  refine takeR (i := 10) (v := ?_) rfl (by kernel_rfl) (by kernel_rfl) (by kernel_rfl) (some 4) rfl (Or.inl ⟨by rfl, ?_⟩) (fun _ _ _ h => h) (by assumption) ?_
  rotate_left
  · intro w hSw; (try dsimp only at hSw); go_simp; (try with_reducible rfl)
  simp only [Act.put, List.setIfInBounds_toArray, List.set_cons_zero, List.set_cons_succ]
  refine wpAnyH_done (by kernel_rfl) ?_ _
  have KD := hide_ hHeld
  clear hHeld HC2 HC3
  go_wp2_with fail
  go_ret2
  exact ⟨by first | rfl | simp, KD.out⟩

set_option maxRecDepth 100000 in
set_option maxHeartbeats 8000000 in
theorem says_n (v : Value) (b : List Int) (n : Int) (w : World) (hB : Bytes w v b) (h : 8 ≤ b.length) (hn : be2 b 2 = n) (h8 : 8 ≤ n) (z : Bool) (hz : decide (n ≤ (b.length : Int)) = z) :
    Calls Try.prog 25 #[v] w fun e w' => e = .returned (.tuple #[.int .i64 n, .bool z]) ∧ Below w.heap.size w w' := by
  obtain ⟨ao, cap, rfl⟩ := hB.short
  have hm := hB.big
  have h' : ¬ (b.length : Int) < 8 := by omega
  have i2 : (2 : Int) < (b.length : Int) := by omega
  have i3 : (3 : Int) < (b.length : Int) := by omega
  have j2 : 2 < b.length := by omega
  have j3 : 3 < b.length := by omega
  obtain ⟨-, -, hib, hat⟩ := Bytes.at hB
  obtain ⟨bq, off, rfl, c2⟩ := hat 2 _ (getD_some (by omega))
  obtain ⟨_, _, e1, c3⟩ := hat 3 _ (getD_some (by omega))
  cases e1
  obtain ⟨n2, m2⟩ := isB_getD hib 2
  obtain ⟨n3, m3⟩ := isB_getD hib 3
  have HC2 := hide_ (fun W (hW : Below w.heap.size w W) => cell_later hW c2)
  have HC3 := hide_ (fun W (hW : Below w.heap.size w W) => cell_later hW c3)
  have hbe : be2 b 2 = b.getD 2 0 * 256 + b.getD 3 0 := if_pos (by omega)
  rw [hbe] at hn
  clear hat c2 c3 hib hbe hB
  generalize b.getD 2 0 = z2 at *
  generalize b.getD 3 0 = z3 at *
  have hw2 : IntKind.i64.wrap z2 = z2 := by rw [IntKind.wrap_i64]; omega
  have hw3 : IntKind.i64.wrap z3 = z3 := by rw [IntKind.wrap_i64]; omega
  have hw4 : IntKind.i64.wrap (z2 * 256) = z2 * 256 := by rw [IntKind.wrap_i64]; omega
  have hw5 : IntKind.i64.wrap (z2 * 256 + z3) = z2 * 256 + z3 := by rw [IntKind.wrap_i64]; omega
  subst hn
  subst hz
  clear h
  have g8 : ¬ z2 * 256 + z3 < 8 := by omega
  go_enter Try.func25, Try.ntmps25
  go_upto_region 3 with fail
  refine wp_region_held_drew (S := (fun w' => Below w.heap.size w w')) (by kernel_rfl) ((Below.refl _ _).drew) (fun hHeld => ?_)
  generalize w.drew = D at *
  refine takeR (i := 0) (v := ?_) rfl (by kernel_rfl) (by kernel_rfl) (by kernel_rfl) (some 8) rfl (Or.inl ⟨by rfl, ?_⟩) (fun _ _ _ h => h) (by assumption) ?_
  rotate_left
  · intro w hSw; (try dsimp only at hSw); go_simp; (try with_reducible rfl)
  simp only [Act.put, List.setIfInBounds_toArray, List.set_cons_zero, List.set_cons_succ]
  refine takeR (i := 1) (v := ?_) rfl (by kernel_rfl) (by kernel_rfl) (by kernel_rfl) (some 9) rfl (Or.inl ⟨by rfl, ?_⟩) (fun _ _ _ h => h) (by assumption) ?_
  rotate_left
  · intro w hSw; (try dsimp only at hSw); go_simp; (try with_reducible rfl)
  simp only [Act.put, List.setIfInBounds_toArray, List.set_cons_zero, List.set_cons_succ]
  refine takeR (i := 2) (v := ?_) rfl (by kernel_rfl) (by kernel_rfl) (by kernel_rfl) (some 10) rfl (Or.inl ⟨by rfl, ?_⟩) (fun _ _ _ h => h) (by assumption) ?_
  rotate_left
  · intro w hSw; (try dsimp only at hSw); have cc := HC2.out _ hSw; go_simp; (try with_reducible rfl)
  simp only [Act.put, List.setIfInBounds_toArray, List.set_cons_zero, List.set_cons_succ]
  refine takeR (i := 3) (v := ?_) rfl (by kernel_rfl) (by kernel_rfl) (by kernel_rfl) (some 11) rfl (Or.inl ⟨by rfl, ?_⟩) (fun _ _ _ h => h) (by assumption) ?_
  rotate_left
  · intro w hSw; (try dsimp only at hSw); go_simp; (try with_reducible rfl)
  simp only [Act.put, List.setIfInBounds_toArray, List.set_cons_zero, List.set_cons_succ]
  refine takeR (i := 4) (v := ?_) rfl (by kernel_rfl) (by kernel_rfl) (by kernel_rfl) (some 12) rfl (Or.inl ⟨by rfl, ?_⟩) (fun _ _ _ h => h) (by assumption) ?_
  rotate_left
  · intro w hSw; (try dsimp only at hSw); go_simp; (try with_reducible rfl)
  simp only [Act.put, List.setIfInBounds_toArray, List.set_cons_zero, List.set_cons_succ]
  refine takeR (i := 5) (v := ?_) rfl (by kernel_rfl) (by kernel_rfl) (by kernel_rfl) (some 13) rfl (Or.inl ⟨by rfl, ?_⟩) (fun _ _ _ h => h) (by assumption) ?_
  rotate_left
  · intro w hSw; (try dsimp only at hSw); go_simp; (try with_reducible rfl)
  simp only [Act.put, List.setIfInBounds_toArray, List.set_cons_zero, List.set_cons_succ]
  refine takeR (i := 6) (v := ?_) rfl (by kernel_rfl) (by kernel_rfl) (by kernel_rfl) (some 14) rfl (Or.inl ⟨by rfl, ?_⟩) (fun _ _ _ h => h) (by assumption) ?_
  rotate_left
  · intro w hSw; (try dsimp only at hSw); go_simp; (try with_reducible rfl)
  simp only [Act.put, List.setIfInBounds_toArray, List.set_cons_zero, List.set_cons_succ]
  refine takeR (i := 7) (v := ?_) rfl (by kernel_rfl) (by kernel_rfl) (by kernel_rfl) (some 15) rfl (Or.inl ⟨by rfl, ?_⟩) (fun _ _ _ h => h) (by assumption) ?_
  rotate_left
  · intro w hSw; (try dsimp only at hSw); have cc := HC3.out _ hSw; go_simp; (try with_reducible rfl)
  simp only [Act.put, List.setIfInBounds_toArray, List.set_cons_zero, List.set_cons_succ]
  refine takeR (i := 8) (v := ?_) rfl (by kernel_rfl) (by kernel_rfl) (by kernel_rfl) (some 16) rfl (Or.inl ⟨by rfl, ?_⟩) (fun _ _ _ h => h) (by assumption) ?_
  rotate_left
  · intro w hSw; (try dsimp only at hSw); go_simp; (try with_reducible rfl)
  simp only [Act.put, List.setIfInBounds_toArray, List.set_cons_zero, List.set_cons_succ]
  refine takeR (i := 9) (v := ?_) rfl (by kernel_rfl) (by kernel_rfl) (by kernel_rfl) (some 17) rfl (Or.inl ⟨by rfl, ?_⟩) (fun _ _ _ h => h) (by assumption) ?_
  rotate_left
  · intro w hSw; (try dsimp only at hSw); go_simp; (try with_reducible rfl)
  simp only [Act.put, List.setIfInBounds_toArray, List.set_cons_zero, List.set_cons_succ]
  refine takeR (i := 10) (v := ?_) rfl (by kernel_rfl) (by kernel_rfl) (by kernel_rfl) (some 4) rfl (Or.inl ⟨by rfl, ?_⟩) (fun _ _ _ h => h) (by assumption) ?_
  rotate_left
  · intro w hSw; (try dsimp only at hSw); go_simp; (try with_reducible rfl)
  simp only [Act.put, List.setIfInBounds_toArray, List.set_cons_zero, List.set_cons_succ]
  refine wpAnyH_done (by kernel_rfl) ?_ _
  have KD := hide_ hHeld
  clear hHeld HC2 HC3
  go_wp2_with fail
  go_ret2
  exact ⟨by first | rfl | simp, KD.out⟩

theorem says_some (v : Value) (b : List Int) (n : Nat) (w : World) (hB : Bytes w v b) (h : wholeF b = some n) :
    Calls Try.prog 25 #[v] w fun e w' => e = .returned (.tuple #[.int .i64 n, .bool true]) ∧ Below w.heap.size w w' := by
  unfold wholeF at h
  by_cases h1 : b.length < 8
  · rw [if_pos h1] at h; cases h
  · rw [if_neg h1] at h
    have hp : 0 ≤ be2 b 2 := be2_pos hB.isB_ 2
    by_cases h2 : lenF b < 8
    · rw [if_pos h2] at h
      cases h
      exact says_all v b w hB (by omega) (by unfold lenF at h2; omega)
    · rw [if_neg h2] at h
      by_cases h3 : b.length < lenF b
      · rw [if_pos h3] at h; cases h
      · rw [if_neg h3] at h
        cases h
        exact says_n v b _ w hB (by omega) (by unfold lenF; omega) (by omega) true (by simp; omega)
theorem says_none (v : Value) (b : List Int) (w : World) (hB : Bytes w v b) (h : wholeF b = none) :
    Calls Try.prog 25 #[v] w fun e w' => (∃ z : Int, e = .returned (.tuple #[.int .i64 z, .bool false])) ∧ Below w.heap.size w w' := by
  unfold wholeF at h
  by_cases h1 : b.length < 8
  · exact (says_short v b w hB h1).mono fun e w' h => ⟨⟨0, h.1⟩, h.2⟩
  · rw [if_neg h1] at h
    have hp : 0 ≤ be2 b 2 := be2_pos hB.isB_ 2
    by_cases h2 : lenF b < 8
    · rw [if_pos h2] at h
      cases h
    · rw [if_neg h2] at h
      by_cases h3 : b.length < lenF b
      · exact (says_n v b (lenF b : Int) w hB (by omega) (by unfold lenF; omega) (by omega) false (by simp; omega)).mono fun e w' h => ⟨⟨_, h.1⟩, h.2⟩
      · rw [if_neg h3] at h
        cases h
end Go.Proofs.Ytcfoieaejpdleaa
