import Derived.Test.YtlincickgleddaaRo
import Derived.Test.YtlincickgleddaaRd
import Derived.Test.YtlincickgleddaaRe
import Derived.Deep.RegionHeld3
import Derived.Deep.RegionWith
import Derived.Deep.MidRow
import Derived.Deep.Cut
namespace Go.Proofs.Ytlincickgleddaa
open Go Go.RowKit
set_option linter.unusedVariables false
set_option linter.unusedSimpArgs false

def r9 : List Q4 := setC z24q 0 (0, 5, 0, 7)
def k9 : List Q4 := z24q.set 0 (0, 0, 0, 1)
def m9 : List Q4 := z24q.set 0 (0, 9, 0, 9)
def h9 : List (Nat × Nat) := z24.set 0 (0, 8)
theorem r9_isC : isC r9 := isC_of _ (by decide +kernel)
theorem k9_isC : isC k9 := isC_of _ (by decide +kernel)
theorem m9_isC : isC m9 := isC_of _ (by decide +kernel)
theorem h9_isH : isH h9 := isH_of _ (by decide +kernel)
theorem aw9_facts : okC r9 k9 = false ∧ okC r9 m9 = true ∧ (woutC m9 r9)[0]? = some (0, 8, 0, 8) ∧ (applyC r9 h9)[0]? = some (0, 13) ∧ thenC z24q r9 = r9 ∧ (thenC z24q r9)[0]? = some (0, 5, 0, 7) ∧ cleanC r9 = r9 := by
  refine ⟨by decide +kernel, by decide +kernel, by decide +kernel, by decide +kernel, by decide +kernel, by decide +kernel, by decide +kernel⟩
theorem idx47 (l : List Q4) (hl : l.length = 24) (a b c d : Nat) (h : l[0]? = some (a, b, c, d)) (w : World) : (Instr.index 29 (.agg (tdc l).toArray) (.int .i64 0)).run Try.prog w = .ok (.agg #[.int .u64 (a : Int), .int .u64 (b : Int), .int .u64 (c : Int), .int .u64 (d : Int)]) w := idx44 l 0 a b c d w (by decide) hl h

set_option maxRecDepth 100000 in
set_option maxHeartbeats 8000000 in
theorem awake9_any (w : World) :
    Calls Try.prog 20 #[] w fun e w' => e = .returned (.bool true) ∧ Below w.heap.size w w' := by
  obtain ⟨f1, f2, f3, f4, f5, f6, f7⟩ := aw9_facts
  have qN : Hid (∀ w, Calls Try.prog 18 #[] w fun e w' => e = .returned (.agg (tdc z24q).toArray) ∧ Below w.heap.size w w') := hide_ (fun w => rwnone_any w)
  have qS : Hid (∀ w, Calls Try.prog 21 #[.agg (tdc z24q).toArray, .int .i64 0, .agg #[.int .u64 0, .int .u64 5], .agg #[.int .u64 0, .int .u64 7]] w fun e w' => e = .returned (.agg (tdc r9).toArray) ∧ Below w.heap.size w w') := hide_ (fun w => rwset_any z24q 0 0 5 0 7 z24q_isC w (by decide) (by decide) (by decide) (by decide))
  have qB1 := fun w => rwbefore_any r9 k9 r9_isC k9_isC w
  rw [f1] at qB1
  have qB1 : Hid (∀ w, Calls Try.prog 8 #[.agg (tdc r9).toArray, .agg (tdc k9).toArray] w fun e w' => e = .returned (.tuple #[.agg (tdc z24q).toArray, .bool false]) ∧ Below w.heap.size w w') := hide_ qB1
  have qB2 := fun w => rwbefore_any r9 m9 r9_isC m9_isC w
  rw [f2] at qB2
  have qB2 : Hid (∀ w, Calls Try.prog 8 #[.agg (tdc r9).toArray, .agg (tdc m9).toArray] w fun e w' => e = .returned (.tuple #[.agg (tdc (woutC m9 r9)).toArray, .bool true]) ∧ Below w.heap.size w w') := hide_ qB2
  have qA : Hid (∀ w, Calls Try.prog 10 #[.agg (tdc r9).toArray, .agg #[.int .u64 0, .int .u64 8, .int .u64 0, .int .u64 0, .int .u64 0, .int .u64 0, .int .u64 0, .int .u64 0, .int .u64 0, .int .u64 0, .int .u64 0, .int .u64 0, .int .u64 0, .int .u64 0, .int .u64 0, .int .u64 0, .int .u64 0, .int .u64 0, .int .u64 0, .int .u64 0, .int .u64 0, .int .u64 0, .int .u64 0, .int .u64 0, .int .u64 0, .int .u64 0, .int .u64 0, .int .u64 0, .int .u64 0, .int .u64 0, .int .u64 0, .int .u64 0, .int .u64 0, .int .u64 0, .int .u64 0, .int .u64 0, .int .u64 0, .int .u64 0, .int .u64 0, .int .u64 0, .int .u64 0, .int .u64 0, .int .u64 0, .int .u64 0, .int .u64 0, .int .u64 0, .int .u64 0, .int .u64 0]] w fun e w' => e = .returned (.agg (wdc (applyC r9 h9)).toArray) ∧ Below w.heap.size w w') := hide_ (fun w => rwapply_any r9 h9 r9_isC h9_isH w)
  have qT := fun w => rwthen_any z24q r9 z24q_isC r9_isC w
  rw [f5] at qT
  have qT : Hid (∀ w, Calls Try.prog 12 #[.agg (tdc z24q).toArray, .agg (tdc r9).toArray] w fun e w' => e = .returned (.agg (tdc r9).toArray) ∧ Below w.heap.size w w') := hide_ qT
  have qAll : Hid (∀ w, Calls Try.prog 41 #[] w fun e w' => e = .returned (.agg (tdc z24q).toArray) ∧ Below w.heap.size w w') := hide_ (fun w => call_any w)
  have qF : Hid (∀ w, Calls Try.prog 14 #[.agg (tdc r9).toArray, .agg (tdc z24q).toArray] w fun e w' => e = .returned (.agg (tdc (thenC z24q r9)).toArray) ∧ Below w.heap.size w w') := hide_ (fun w => rwafter_any r9 z24q r9_isC z24q_isC w)
  have qC := fun w => rwclean_any r9 r9_isC w
  rw [f7] at qC
  have qC : Hid (∀ w, Calls Try.prog 16 #[.agg (tdc r9).toArray] w fun e w' => e = .returned (.agg (tdc r9).toArray) ∧ Below w.heap.size w w') := hide_ qC
  have i1 := fun w => idx46 (applyC r9 h9) (by simp [applyC]) (0, 13) f4 w
  have i1 : ∀ w, (Instr.index 31 (.agg (wdc (applyC r9 h9)).toArray) (.int .i64 0)).run Try.prog w = .ok (.agg #[.int .u64 0, .int .u64 13]) w := i1
  have i2 : ∀ w, (Instr.index 29 (.agg (tdc (thenC z24q r9)).toArray) (.int .i64 0)).run Try.prog w = .ok (.agg #[.int .u64 0, .int .u64 5, .int .u64 0, .int .u64 7]) w := fun w => idx47 (thenC z24q r9) (map_len _) 0 5 0 7 f6 w
  have j1 : ∀ w, (Instr.field 24 (.agg #[.int .u64 0, .int .u64 13]) 1).run Try.prog w = .ok (.int .u64 13) w := fun w => by rfl
  have j2 : ∀ w, (Instr.field 26 (.agg #[.int .u64 0, .int .u64 5, .int .u64 0, .int .u64 7]) 1).run Try.prog w = .ok (.agg #[.int .u64 0, .int .u64 7]) w := fun w => by rfl
  have j3 : ∀ w, (Instr.field 24 (.agg #[.int .u64 0, .int .u64 7]) 1).run Try.prog w = .ok (.int .u64 7) w := fun w => by rfl
  have rr := fun w => req_same r9 r9_isC.1 w
  have hr := hide_ r9_isC.1
  have hB := hide_ (show (woutC m9 r9).length = 24 from map_len _)
  have HB3 : Hid ((tdc (woutC m9 r9))[3]? = some (.int .u64 8)) := hide_ ((tdc_at (woutC m9 r9) 0 _ f3).2.2.2)
  have e1 : Hid ((.agg (((((tdc z24q).set 0 (.int .u64 0)).set 1 (.int .u64 0)).set 2 (.int .u64 0)).set 3 (.int .u64 1)).toArray : Value) = .agg (tdc k9).toArray) := hide_ rfl
  have e2 : Hid ((.agg (((((tdc z24q).set 0 (.int .u64 0)).set 1 (.int .u64 9)).set 2 (.int .u64 0)).set 3 (.int .u64 9)).toArray : Value) = .agg (tdc m9).toArray) := hide_ rfl
  have hz96 : (tdc z24q).length = 96 := by rw [tdc_length, z24q_len]
  clear f1 f2 f3 f4 f5 f6 f7
  generalize applyC r9 h9 = ah at *
  generalize thenC z24q r9 = tz at *
  generalize woutC m9 r9 = B at *
  generalize r9 = r at *
  generalize k9 = kk at *
  generalize m9 = mm at *
  obtain ⟨hz0, -⟩ := zero_of_info zR'
  obtain ⟨hz1, -⟩ := zero_of_info zC'
  go_enter Try.func20, Try.ntmps20
  go_upto_region 2 with (first | (go_at_call 18; refine (qN.out _).mono ?_; rintro e w1 ⟨rfl, b1⟩) | (go_at_call 21; refine (qS.out _).mono ?_; rintro e w2 ⟨rfl, b2⟩; have Z2 := hide_ (AB.at0 w2 28 (tdc z24q))) | (refine wpList_storeA rfl (.tmp 1) (.tmp 9) rfl w2.heap.size (by simp [Act.eval, Act.put]) (tdc z24q) (tdc r) (by rw [tdc_length, tdc_length, hr.out, z24q_len]) (szR hr.out) (tdc_one _) (by simp [Act.eval, Act.put]) Z2.out ?_))
  have B2 := b1.trans (b2.mono b1.size)
  have BA := hide_ (B2.trans (((below1 w2 (.cells (tdc z24q).toArray 28)).trans (below_row _ w2.heap.size _ (tdc r).toArray (Nat.le_refl _))).mono B2.size))
  have RA := hide_ (Z2.out.row (cs' := tdc r))
  clear b1 b2 B2 Z2
  try simp only [Act.put]
  generalize ((w2.alloc (.cells (tdc z24q).toArray 28)).setRow w2.heap.size (tdc r).toArray) = U at *
  generalize w2.heap.size = g1 at *
  go_upto_region 3 with (first | (refine wpList_loadA Try.underlying28 rfl (.tmp 1) rfl g1 (by simp [Act.eval, Act.put]) (tdc r) (szR hr.out) RA.out ?_) | (go_at_call 8; first | rw [e1.out] | (simp only [Act.put]; rw [e1.out]) | skip; refine (qB1.out _).mono ?_; rintro e w3 ⟨rfl, b3⟩; have Z3 := hide_ (AB.at0 w3 29 (tdc z24q))) | (refine wpList_storeA rfl (.tmp 2) (.tmp 16) rfl w3.heap.size (by simp [Act.eval, Act.put]) (tdc z24q) (tdc z24q) rfl (szC z24q_len) (tdc_one _) (by simp [Act.eval, Act.put]) Z3.out ?_))
  have k3 := b3.trans (((below1 w3 (.cells (tdc z24q).toArray 29)).trans (below_row _ w3.heap.size _ (tdc z24q).toArray (Nat.le_refl _))).mono b3.size)
  have RB := hide_ (RA.out.later k3)
  have BB := hide_ (BA.out.trans (k3.mono BA.out.size))
  clear b3 k3 RA BA Z3
  try simp only [Act.put]
  generalize ((w3.alloc (.cells (tdc z24q).toArray 29)).setRow w3.heap.size (tdc z24q).toArray) = U2 at *
  generalize w3.heap.size = g9 at *
  go_upto_region 4 with (first | (refine wpList_loadA Try.underlying28 rfl (.tmp 1) rfl g1 (by simp [Act.eval, Act.put]) (tdc r) (szR hr.out) RB.out ?_) | (go_at_call 8; first | rw [e2.out] | (simp only [Act.put]; rw [e2.out]) | skip; refine (qB2.out _).mono ?_; rintro e w4 ⟨rfl, b4⟩; have Z4 := hide_ (AB.at0 w4 29 (tdc z24q))) | (refine wpList_storeA rfl (.tmp 4) (.tmp 25) rfl w4.heap.size (by simp [Act.eval, Act.put]) (tdc z24q) (tdc B) (by rw [tdc_length, tdc_length, hB.out, z24q_len]) (szC hB.out) (tdc_one _) (by simp [Act.eval, Act.put]) Z4.out ?_))
  have k4 := b4.trans (((below1 w4 (.cells (tdc z24q).toArray 29)).trans (below_row _ w4.heap.size _ (tdc B).toArray (Nat.le_refl _))).mono b4.size)
  have R1 := (RB.out.later k4).range
  have R2 := ((Z4.out.row (cs' := tdc B)).cell HB3.out).1
  have HB := hide_ (BB.out.trans (k4.mono BB.out.size))
  clear b4 k4 RB BB Z4 HB3
  try simp only [Act.put]
  generalize ((w4.alloc (.cells (tdc z24q).toArray 29)).setRow w4.heap.size (tdc B).toArray) = W at *
  generalize w4.heap.size = g2 at *
  refine wp_region_held_drew (S := (fun w' => w'.rangeAt g1 0 (tdc r) ∧ w'.cell? ⟨g2, 3, none⟩ = some (.int .u64 8) ∧ Below W.heap.size W w')) (by kernel_rfl) (⟨R1, R2, (Below.refl _ _).drew⟩) (fun hHeld => ?_)
  refine takeL Try.underlying28 (i := 0) rfl (by kernel_rfl) (by kernel_rfl) (by kernel_rfl) (some 27) rfl (.tmp 1) rfl (by rfl) g1 rfl (tdc r) (szR hr.out) (fun w h => h.1) (fun _ _ _ h => h) (by assumption) ?_
  simp only [Act.put, List.setIfInBounds_toArray, List.set_cons_zero, List.set_cons_succ]
  refine takeR (i := 1) (v := ?_) rfl (by kernel_rfl) (by kernel_rfl) (by kernel_rfl) (some 28) rfl (Or.inl ⟨by rfl, ?_⟩) (fun _ _ _ h => h) (by assumption) ?_
  rotate_left
  · intro w hSw; (try dsimp only at hSw); go_simp; (try with_reducible rfl)
  simp only [Act.put, List.setIfInBounds_toArray, List.set_cons_zero, List.set_cons_succ]
  refine takeR (i := 2) (v := ?_) rfl (by kernel_rfl) (by kernel_rfl) (by kernel_rfl) (some 29) rfl (Or.inl ⟨by rfl, ?_⟩) (fun _ _ _ h => h) (by assumption) ?_
  rotate_left
  · intro w hSw; (try dsimp only at hSw); go_simp; (try with_reducible rfl)
  simp only [Act.put, List.setIfInBounds_toArray, List.set_cons_zero, List.set_cons_succ]
  refine wpAnyH_ready (rs := [3]) (by kernel_rfl) (by simp) ?_
  refine AllReadyH.cons rfl (fun K hK => ?_) (AllReadyH.nil)
  go_simp
  refine (qA.out _).mono ?_
  rintro e w9 ⟨rfl, b9⟩
  refine hK.out _ _ (kG1_1 b9 hHeld) (fun hHeld => ?_)
  clear hK K
  try simp only [Act.put, List.setIfInBounds_toArray, List.set_cons_zero, List.set_cons_succ]
  refine takeR (i := 4) (v := ?_) rfl (by kernel_rfl) (by kernel_rfl) (by kernel_rfl) (some 31) rfl (Or.inl ⟨by rfl, ?_⟩) (fun _ _ _ h => h) (by assumption) ?_
  rotate_left
  · intro w hSw; (try dsimp only at hSw); go_simp; (try with_reducible rfl)
  simp only [Act.put, List.setIfInBounds_toArray, List.set_cons_zero, List.set_cons_succ]
  refine takeR (i := 5) (v := ?_) rfl (by kernel_rfl) (by kernel_rfl) (by kernel_rfl) (some 32) rfl (Or.inl ⟨by rfl, ?_⟩) (fun _ _ _ h => h) (by assumption) ?_
  rotate_left
  · intro w hSw; (try dsimp only at hSw); go_simp; (try with_reducible rfl)
  simp only [Act.put, List.setIfInBounds_toArray, List.set_cons_zero, List.set_cons_succ]
  refine takeR (i := 6) (v := ?_) rfl (by kernel_rfl) (by kernel_rfl) (by kernel_rfl) (some 33) rfl (Or.inl ⟨by rfl, ?_⟩) (fun _ _ _ h => h) (by assumption) ?_
  rotate_left
  · intro w hSw; (try dsimp only at hSw); go_simp; (try with_reducible rfl)
  simp only [Act.put, List.setIfInBounds_toArray, List.set_cons_zero, List.set_cons_succ]
  refine takeR (i := 7) (v := ?_) rfl (by kernel_rfl) (by kernel_rfl) (by kernel_rfl) (some 34) rfl (Or.inl ⟨by rfl, ?_⟩) (fun _ _ _ h => h) (by assumption) ?_
  rotate_left
  · intro w hSw; (try dsimp only at hSw); go_simp; (try with_reducible rfl)
  simp only [Act.put, List.setIfInBounds_toArray, List.set_cons_zero, List.set_cons_succ]
  refine takeR (i := 8) (v := ?_) rfl (by kernel_rfl) (by kernel_rfl) (by kernel_rfl) (some 35) rfl (Or.inl ⟨by rfl, ?_⟩) (fun _ _ _ h => h) (by assumption) ?_
  rotate_left
  · intro w hSw; (try dsimp only at hSw); go_simp; (try with_reducible rfl)
  simp only [Act.put, List.setIfInBounds_toArray, List.set_cons_zero, List.set_cons_succ]
  refine takeR (i := 9) (v := ?_) rfl (by kernel_rfl) (by kernel_rfl) (by kernel_rfl) (some 36) rfl (Or.inl ⟨by rfl, ?_⟩) (fun _ _ _ h => h) (by assumption) ?_
  rotate_left
  · intro w hSw; (try dsimp only at hSw); go_simp; (try with_reducible rfl)
  simp only [Act.put, List.setIfInBounds_toArray, List.set_cons_zero, List.set_cons_succ]
  refine takeR (i := 10) (v := ?_) rfl (by kernel_rfl) (by kernel_rfl) (by kernel_rfl) (some 37) rfl (Or.inl ⟨by rfl, ?_⟩) (fun _ _ _ h => h) (by assumption) ?_
  rotate_left
  · intro w hSw; (try dsimp only at hSw); go_simp; (try with_reducible rfl)
  simp only [Act.put, List.setIfInBounds_toArray, List.set_cons_zero, List.set_cons_succ]
  refine takeR (i := 11) (v := ?_) rfl (by kernel_rfl) (by kernel_rfl) (by kernel_rfl) (some 38) rfl (Or.inl ⟨by rfl, ?_⟩) (fun _ _ _ h => h) (by assumption) ?_
  rotate_left
  · intro w hSw; (try dsimp only at hSw); go_simp; (try with_reducible rfl)
  simp only [Act.put, List.setIfInBounds_toArray, List.set_cons_zero, List.set_cons_succ]
  refine takeR (i := 12) (v := ?_) rfl (by kernel_rfl) (by kernel_rfl) (by kernel_rfl) (some 39) rfl (Or.inl ⟨by rfl, ?_⟩) (fun _ _ _ h => h) (by assumption) ?_
  rotate_left
  · intro w hSw; (try dsimp only at hSw); go_simp; (try with_reducible rfl)
  simp only [Act.put, List.setIfInBounds_toArray, List.set_cons_zero, List.set_cons_succ]
  refine takeR (i := 13) (v := ?_) rfl (by kernel_rfl) (by kernel_rfl) (by kernel_rfl) (some 40) rfl (Or.inl ⟨by rfl, ?_⟩) (fun _ _ _ h => h) (by assumption) ?_
  rotate_left
  · intro w hSw; (try dsimp only at hSw); go_simp; (try with_reducible rfl)
  simp only [Act.put, List.setIfInBounds_toArray, List.set_cons_zero, List.set_cons_succ]
  refine takeR (i := 14) (v := ?_) rfl (by kernel_rfl) (by kernel_rfl) (by kernel_rfl) (some 41) rfl (Or.inl ⟨by rfl, ?_⟩) (fun _ _ _ h => h) (by assumption) ?_
  rotate_left
  · intro w hSw; (try dsimp only at hSw); go_simp; (try with_reducible rfl)
  simp only [Act.put, List.setIfInBounds_toArray, List.set_cons_zero, List.set_cons_succ]
  refine takeR (i := 15) (v := ?_) rfl (by kernel_rfl) (by kernel_rfl) (by kernel_rfl) (some 42) rfl (Or.inl ⟨by rfl, ?_⟩) (fun _ _ _ h => h) (by assumption) ?_
  rotate_left
  · intro w hSw; (try dsimp only at hSw); go_simp; (try with_reducible rfl)
  simp only [Act.put, List.setIfInBounds_toArray, List.set_cons_zero, List.set_cons_succ]
  refine takeR (i := 16) (v := ?_) rfl (by kernel_rfl) (by kernel_rfl) (by kernel_rfl) (some 43) rfl (Or.inl ⟨by rfl, ?_⟩) (fun _ _ _ h => h) (by assumption) ?_
  rotate_left
  · intro w hSw; (try dsimp only at hSw); go_simp; (try with_reducible rfl)
  simp only [Act.put, List.setIfInBounds_toArray, List.set_cons_zero, List.set_cons_succ]
  refine takeR (i := 17) (v := ?_) rfl (by kernel_rfl) (by kernel_rfl) (by kernel_rfl) (some 44) rfl (Or.inl ⟨by rfl, ?_⟩) (fun _ _ _ h => h) (by assumption) ?_
  rotate_left
  · intro w hSw; (try dsimp only at hSw); go_simp; (try with_reducible rfl)
  simp only [Act.put, List.setIfInBounds_toArray, List.set_cons_zero, List.set_cons_succ]
  refine takeR (i := 18) (v := ?_) rfl (by kernel_rfl) (by kernel_rfl) (by kernel_rfl) (some 45) rfl (Or.inl ⟨by rfl, ?_⟩) (fun _ _ _ h => h) (by assumption) ?_
  rotate_left
  · intro w hSw; (try dsimp only at hSw); go_simp; (try with_reducible rfl)
  simp only [Act.put, List.setIfInBounds_toArray, List.set_cons_zero, List.set_cons_succ]
  refine takeR (i := 19) (v := ?_) rfl (by kernel_rfl) (by kernel_rfl) (by kernel_rfl) (some 46) rfl (Or.inl ⟨by rfl, ?_⟩) (fun _ _ _ h => h) (by assumption) ?_
  rotate_left
  · intro w hSw; (try dsimp only at hSw); go_simp; (try with_reducible rfl)
  simp only [Act.put, List.setIfInBounds_toArray, List.set_cons_zero, List.set_cons_succ]
  refine takeR (i := 20) (v := ?_) rfl (by kernel_rfl) (by kernel_rfl) (by kernel_rfl) (some 47) rfl (Or.inl ⟨by rfl, ?_⟩) (fun _ _ _ h => h) (by assumption) ?_
  rotate_left
  · intro w hSw; (try dsimp only at hSw); go_simp; (try with_reducible rfl)
  simp only [Act.put, List.setIfInBounds_toArray, List.set_cons_zero, List.set_cons_succ]
  refine takeR (i := 21) (v := ?_) rfl (by kernel_rfl) (by kernel_rfl) (by kernel_rfl) (some 48) rfl (Or.inl ⟨by rfl, ?_⟩) (fun _ _ _ h => h) (by assumption) ?_
  rotate_left
  · intro w hSw; (try dsimp only at hSw); go_simp; (try with_reducible rfl)
  simp only [Act.put, List.setIfInBounds_toArray, List.set_cons_zero, List.set_cons_succ]
  refine takeL Try.underlying28 (i := 23) rfl (by kernel_rfl) (by kernel_rfl) (by kernel_rfl) (some 50) rfl (.tmp 1) rfl (by rfl) g1 rfl (tdc r) (szR hr.out) (fun w h => h.1) (fun _ _ _ h => h) (by assumption) ?_
  simp only [Act.put, List.setIfInBounds_toArray, List.set_cons_zero, List.set_cons_succ]
  refine takeL Try.underlying28 (i := 25) rfl (by kernel_rfl) (by kernel_rfl) (by kernel_rfl) (some 52) rfl (.tmp 1) rfl (by rfl) g1 rfl (tdc r) (szR hr.out) (fun w h => h.1) (fun _ _ _ h => h) (by assumption) ?_
  simp only [Act.put, List.setIfInBounds_toArray, List.set_cons_zero, List.set_cons_succ]
  refine wpAnyH_ready (rs := [22]) (by kernel_rfl) (by simp) ?_
  refine AllReadyH.cons rfl (fun K hK => ?_) (AllReadyH.nil)
  go_simp
  refine (qN.out _).mono ?_
  rintro e w9 ⟨rfl, b9⟩
  refine hK.out _ _ (kG1_1 b9 hHeld) (fun hHeld => ?_)
  clear hK K
  try simp only [Act.put, List.setIfInBounds_toArray, List.set_cons_zero, List.set_cons_succ]
  refine wpAnyH_ready (rs := [24]) (by kernel_rfl) (by simp) ?_
  refine AllReadyH.cons rfl (fun K hK => ?_) (AllReadyH.nil)
  go_simp
  refine (qT.out _).mono ?_
  rintro e w9 ⟨rfl, b9⟩
  refine hK.out _ _ (kG1_1 b9 hHeld) (fun hHeld => ?_)
  clear hK K
  try simp only [Act.put, List.setIfInBounds_toArray, List.set_cons_zero, List.set_cons_succ]
  refine takeR (i := 26) (v := ?_) rfl (by kernel_rfl) (by kernel_rfl) (by kernel_rfl) (some 53) rfl (Or.inl ⟨by rfl, ?_⟩) (fun _ _ _ h => h) (by assumption) ?_
  rotate_left
  · intro w hSw; (try dsimp only at hSw); go_simp; (try with_reducible rfl)
  simp only [Act.put, List.setIfInBounds_toArray, List.set_cons_zero, List.set_cons_succ]
  refine takeR (i := 27) (v := ?_) rfl (by kernel_rfl) (by kernel_rfl) (by kernel_rfl) (some 54) rfl (Or.inl ⟨by rfl, ?_⟩) (fun _ _ _ h => h) (by assumption) ?_
  rotate_left
  · intro w hSw; (try dsimp only at hSw); go_simp; (try with_reducible rfl)
  simp only [Act.put, List.setIfInBounds_toArray, List.set_cons_zero, List.set_cons_succ]
  refine takeR (i := 28) (v := ?_) rfl (by kernel_rfl) (by kernel_rfl) (by kernel_rfl) (some 55) rfl (Or.inl ⟨by rfl, ?_⟩) (fun _ _ _ h => h) (by assumption) ?_
  rotate_left
  · intro w hSw; (try dsimp only at hSw); go_simp; (try with_reducible rfl)
  simp only [Act.put, List.setIfInBounds_toArray, List.set_cons_zero, List.set_cons_succ]
  refine takeL Try.underlying28 (i := 29) rfl (by kernel_rfl) (by kernel_rfl) (by kernel_rfl) (some 56) rfl (.tmp 1) rfl (by rfl) g1 rfl (tdc r) (szR hr.out) (fun w h => h.1) (fun _ _ _ h => h) (by assumption) ?_
  simp only [Act.put, List.setIfInBounds_toArray, List.set_cons_zero, List.set_cons_succ]
  refine wpAnyH_ready (rs := [30]) (by kernel_rfl) (by simp) ?_
  refine AllReadyH.cons rfl (fun K hK => ?_) (AllReadyH.nil)
  go_simp
  refine (qAll.out _).mono ?_
  rintro e w9 ⟨rfl, b9⟩
  refine hK.out _ _ (kG1_1 b9 hHeld) (fun hHeld => ?_)
  clear hK K
  try simp only [Act.put, List.setIfInBounds_toArray, List.set_cons_zero, List.set_cons_succ]
  refine wpAnyH_ready (rs := [31]) (by kernel_rfl) (by simp) ?_
  refine AllReadyH.cons rfl (fun K hK => ?_) (AllReadyH.nil)
  go_simp
  refine (qF.out _).mono ?_
  rintro e w9 ⟨rfl, b9⟩
  refine hK.out _ _ (kG1_1 b9 hHeld) (fun hHeld => ?_)
  clear hK K
  try simp only [Act.put, List.setIfInBounds_toArray, List.set_cons_zero, List.set_cons_succ]
  refine takeR (i := 32) (v := ?_) rfl (by kernel_rfl) (by kernel_rfl) (by kernel_rfl) (some 59) rfl (Or.inl ⟨by rfl, ?_⟩) (fun _ _ _ h => h) (by assumption) ?_
  rotate_left
  · intro w hSw; (try dsimp only at hSw); go_simp; (try with_reducible rfl)
  simp only [Act.put, List.setIfInBounds_toArray, List.set_cons_zero, List.set_cons_succ]
  refine takeR (i := 33) (v := ?_) rfl (by kernel_rfl) (by kernel_rfl) (by kernel_rfl) (some 60) rfl (Or.inl ⟨by rfl, ?_⟩) (fun _ _ _ h => h) (by assumption) ?_
  rotate_left
  · intro w hSw; (try dsimp only at hSw); go_simp; (try with_reducible rfl)
  simp only [Act.put, List.setIfInBounds_toArray, List.set_cons_zero, List.set_cons_succ]
  refine takeR (i := 34) (v := ?_) rfl (by kernel_rfl) (by kernel_rfl) (by kernel_rfl) (some 61) rfl (Or.inl ⟨by rfl, ?_⟩) (fun _ _ _ h => h) (by assumption) ?_
  rotate_left
  · intro w hSw; (try dsimp only at hSw); go_simp; (try with_reducible rfl)
  simp only [Act.put, List.setIfInBounds_toArray, List.set_cons_zero, List.set_cons_succ]
  refine takeR (i := 35) (v := ?_) rfl (by kernel_rfl) (by kernel_rfl) (by kernel_rfl) (some 62) rfl (Or.inl ⟨by rfl, ?_⟩) (fun _ _ _ h => h) (by assumption) ?_
  rotate_left
  · intro w hSw; (try dsimp only at hSw); go_simp; (try with_reducible rfl)
  simp only [Act.put, List.setIfInBounds_toArray, List.set_cons_zero, List.set_cons_succ]
  refine takeR (i := 36) (v := ?_) rfl (by kernel_rfl) (by kernel_rfl) (by kernel_rfl) (some 63) rfl (Or.inl ⟨by rfl, ?_⟩) (fun _ _ _ h => h) (by assumption) ?_
  rotate_left
  · intro w hSw; (try dsimp only at hSw); go_simp; (try with_reducible rfl)
  simp only [Act.put, List.setIfInBounds_toArray, List.set_cons_zero, List.set_cons_succ]
  refine takeR (i := 37) (v := ?_) rfl (by kernel_rfl) (by kernel_rfl) (by kernel_rfl) (some 64) rfl (Or.inl ⟨by rfl, ?_⟩) (fun _ _ _ h => h) (by assumption) ?_
  rotate_left
  · intro w hSw; (try dsimp only at hSw); go_simp; (try with_reducible rfl)
  simp only [Act.put, List.setIfInBounds_toArray, List.set_cons_zero, List.set_cons_succ]
  refine takeL Try.underlying28 (i := 38) rfl (by kernel_rfl) (by kernel_rfl) (by kernel_rfl) (some 65) rfl (.tmp 1) rfl (by rfl) g1 rfl (tdc r) (szR hr.out) (fun w h => h.1) (fun _ _ _ h => h) (by assumption) ?_
  simp only [Act.put, List.setIfInBounds_toArray, List.set_cons_zero, List.set_cons_succ]
  refine takeL Try.underlying28 (i := 40) rfl (by kernel_rfl) (by kernel_rfl) (by kernel_rfl) (some 67) rfl (.tmp 1) rfl (by rfl) g1 rfl (tdc r) (szR hr.out) (fun w h => h.1) (fun _ _ _ h => h) (by assumption) ?_
  simp only [Act.put, List.setIfInBounds_toArray, List.set_cons_zero, List.set_cons_succ]
  refine wpAnyH_ready (rs := [39]) (by kernel_rfl) (by simp) ?_
  refine AllReadyH.cons rfl (fun K hK => ?_) (AllReadyH.nil)
  go_simp
  refine (qC.out _).mono ?_
  rintro e w9 ⟨rfl, b9⟩
  refine hK.out _ _ (kG1_1 b9 hHeld) (fun hHeld => ?_)
  clear hK K
  try simp only [Act.put, List.setIfInBounds_toArray, List.set_cons_zero, List.set_cons_succ]
  refine takeR (i := 41) (v := ?_) rfl (by kernel_rfl) (by kernel_rfl) (by kernel_rfl) (some 68) rfl (Or.inl ⟨by rfl, ?_⟩) (fun _ _ _ h => h) (by assumption) ?_
  rotate_left
  · intro w hSw; (try dsimp only at hSw); go_simp; (try with_reducible rfl)
  simp only [Act.put, List.setIfInBounds_toArray, List.set_cons_zero, List.set_cons_succ]
  refine takeR (i := 42) (v := ?_) rfl (by kernel_rfl) (by kernel_rfl) (by kernel_rfl) (some 69) rfl (Or.inl ⟨by rfl, ?_⟩) (fun _ _ _ h => h) (by assumption) ?_
  rotate_left
  · intro w hSw; (try dsimp only at hSw); go_simp; (try with_reducible rfl)
  simp only [Act.put, List.setIfInBounds_toArray, List.set_cons_zero, List.set_cons_succ]
  refine takeR (i := 43) (v := ?_) rfl (by kernel_rfl) (by kernel_rfl) (by kernel_rfl) (some 0) rfl (Or.inl ⟨by rfl, ?_⟩) (fun _ _ _ h => h) (by assumption) ?_
  rotate_left
  · intro w hSw; (try dsimp only at hSw); go_simp; (try with_reducible rfl)
  simp only [Act.put, List.setIfInBounds_toArray, List.set_cons_zero, List.set_cons_succ]
  refine wpAnyH_done (by kernel_rfl) ?_ _
  have bel := hHeld.2.2
  clear hHeld
  go_wp2_with fail
  go_ret
  exact ⟨rfl, HB.out.trans (bel.mono HB.out.size)⟩


end Go.Proofs.Ytlincickgleddaa
