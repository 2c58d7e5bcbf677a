import Derived.Test.YtikooaaigdmjmaaZ
namespace Go.Proofs.Ytikooaaigdmjmaa
open Go Go.RowKit
set_option linter.unusedVariables false
set_option linter.unusedSimpArgs false

theorem keep2 {base g f : Nat} {w0 wa wb : World} {x y u v : Value} (h : wa.cell? ⟨g, 0, none⟩ = some x ∧ wa.cell? ⟨g, 1, none⟩ = some y ∧ wa.cell? ⟨f, 0, none⟩ = some u ∧ wa.cell? ⟨f, 1, none⟩ = some v ∧ Below base w0 wa) (hw : base ≤ w0.heap.size) (k : Below wa.heap.size wa wb) :
    wb.cell? ⟨g, 0, none⟩ = some x ∧ wb.cell? ⟨g, 1, none⟩ = some y ∧ wb.cell? ⟨f, 0, none⟩ = some u ∧ wb.cell? ⟨f, 1, none⟩ = some v ∧ Below base w0 wb :=
  ⟨cell_later k h.1, cell_later k h.2.1, cell_later k h.2.2.1, cell_later k h.2.2.2.1, h.2.2.2.2.trans (k.mono (Nat.le_trans hw h.2.2.2.2.size))⟩

set_option maxRecDepth 100000 in
set_option maxHeartbeats 4000000 in
theorem wideBits_walk (a b c d : Nat) (w : World) (ha : a < 18446744073709551616) (hb : b < 18446744073709551616) (hc : c < 18446744073709551616) (hd : d < 18446744073709551616) :
    Calls Try.prog 6 #[wd a b, wd c d] w fun e w' => e = .returned (.bool true) ∧ Below w.heap.size w w' := by
  have q1 := fun w => and_any a b c d w ha hb hc hd
  have q2 := fun w => rand_any a b c d w ha hb hc hd
  have q3 := fun w => or_any a b c d w ha hb hc hd
  have q4 := fun w => ror_any a b c d w ha hb hc hd
  have q5 := fun w => xor_any a b c d w ha hb hc hd
  have q6 := fun w => rxor_any a b c d w ha hb hc hd
  have q7 := fun w => less_any a b c d w ha hb hc hd
  have q8 := fun w => rless_any a b c d w ha hb hc hd
  have q9 := fun w => zero_any a b w
  have q10 := fun w => rzero_any a b w
  have q11 := fun w => many_any a b w ha hb
  have q12 := fun w => rmany_any a b w ha hb
  generalize a &&& c = x1 at *
  generalize b &&& d = y1 at *
  generalize a ||| c = x2 at *
  generalize b ||| d = y2 at *
  generalize a ^^^ c = x3 at *
  generalize b ^^^ d = y3 at *
  generalize andn a c = x4 at *
  generalize andn b d = y4 at *
  generalize (a == 0 && b == 0) = z at *
  generalize pc a + pc b = m at *
  unfold wd at *
  have Q1 := hide_ q1
  have Q2 := hide_ q2
  have Q3 := hide_ q3
  have Q4 := hide_ q4
  have Q5 := hide_ q5
  have Q6 := hide_ q6
  have Q7 := hide_ q7
  have Q8 := hide_ q8
  have Q9 := hide_ q9
  have Q10 := hide_ q10
  have Q11 := hide_ q11
  have Q12 := hide_ q12
  clear q1 q2 q3 q4 q5 q6 q7 q8 q9 q10 q11 q12
  go_enter Try.func6, Try.ntmps6
  go_wp2_with fail
  go_region_held3 (fun w' => w'.cell? ⟨w.heap.size, 0, none⟩ = some (.int .u64 (a : Int)) ∧ w'.cell? ⟨w.heap.size, 1, none⟩ = some (.int .u64 (b : Int)) ∧ w'.cell? ⟨w.heap.size + 1, 0, none⟩ = some (.int .u64 (c : Int)) ∧ w'.cell? ⟨w.heap.size + 1, 1, none⟩ = some (.int .u64 (d : Int)) ∧ Below w.heap.size w w')
    (first | (exact keep2 (by assumption) (Nat.le_refl _) (by assumption)) | (exact ⟨by simp [go_sem], by simp [go_sem], by simp [go_sem], by simp [go_sem], by go_grown⟩))
    (first | (go_at_call 18; refine (Q1.out _).mono ?_; rintro e w' ⟨rfl, hb⟩) | (go_at_call 19; refine (Q2.out _).mono ?_; rintro e w' ⟨rfl, hb⟩) | (go_at_call 20; refine (Q3.out _).mono ?_; rintro e w' ⟨rfl, hb⟩) | (go_at_call 21; refine (Q4.out _).mono ?_; rintro e w' ⟨rfl, hb⟩))
  rename_i hH
  go_wp2_with fail
  go_region_held3 (fun w' => w'.cell? ⟨w.heap.size, 0, none⟩ = some (.int .u64 (a : Int)) ∧ w'.cell? ⟨w.heap.size, 1, none⟩ = some (.int .u64 (b : Int)) ∧ w'.cell? ⟨w.heap.size + 1, 0, none⟩ = some (.int .u64 (c : Int)) ∧ w'.cell? ⟨w.heap.size + 1, 1, none⟩ = some (.int .u64 (d : Int)) ∧ Below w.heap.size w w')
    (first | (exact keep2 (by assumption) (Nat.le_refl _) (by assumption)) | (exact keep2 (by assumption) (Nat.le_refl _) (Below.refl _ _).drew))
    (first | (go_at_call 22; refine (Q5.out _).mono ?_; rintro e w' ⟨rfl, hb⟩) | (go_at_call 23; refine (Q6.out _).mono ?_; rintro e w' ⟨rfl, hb⟩) | (go_at_call 24; refine (Q7.out _).mono ?_; rintro e w' ⟨rfl, hb⟩) | (go_at_call 25; refine (Q8.out _).mono ?_; rintro e w' ⟨rfl, hb⟩))
  rename_i hH2
  clear hH
  have ez : (z == z) = true := by simp
  go_wp2_with fail
  go_region_held3 (fun w' => w'.cell? ⟨w.heap.size, 0, none⟩ = some (.int .u64 (a : Int)) ∧ w'.cell? ⟨w.heap.size, 1, none⟩ = some (.int .u64 (b : Int)) ∧ w'.cell? ⟨w.heap.size + 1, 0, none⟩ = some (.int .u64 (c : Int)) ∧ w'.cell? ⟨w.heap.size + 1, 1, none⟩ = some (.int .u64 (d : Int)) ∧ Below w.heap.size w w')
    (first | (exact keep2 (by assumption) (Nat.le_refl _) (by assumption)) | (exact keep2 (by assumption) (Nat.le_refl _) (Below.refl _ _).drew))
    (first | (go_at_call 26; refine (Q9.out _).mono ?_; rintro e w' ⟨rfl, hb⟩) | (go_at_call 27; refine (Q10.out _).mono ?_; rintro e w' ⟨rfl, hb⟩) | (go_at_call 28; refine (Q11.out _).mono ?_; rintro e w' ⟨rfl, hb⟩) | (go_at_call 29; refine (Q12.out _).mono ?_; rintro e w' ⟨rfl, hb⟩) | (go_at_call 30; refine (awake2_any _).mono ?_; rintro e w' ⟨rfl, hb⟩))
  rename_i hH3
  have bel := hH3.2.2.2.2
  clear hH3
  go_wp2
  go_ret
  exact ⟨rfl, bel⟩

end Go.Proofs.Ytikooaaigdmjmaa
