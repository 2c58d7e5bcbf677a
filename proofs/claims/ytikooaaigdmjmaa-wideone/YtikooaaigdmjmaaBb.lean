import Derived.Test.YtikooaaigdmjmaaZ
namespace Go.Proofs.Ytikooaaigdmjmaa
open Go Go.RowKit
set_option linter.unusedVariables false
set_option linter.unusedSimpArgs false

set_option maxRecDepth 100000 in
set_option maxHeartbeats 4000000 in
theorem wideOne_walk (a b : Nat) (i : Int) (w : World) (ha : a < 18446744073709551616) (hb : b < 18446744073709551616) :
    Calls Try.prog 7 #[wd a b, .int .i64 i] w fun e w' => e = .returned (.bool true) ∧ Below w.heap.size w w' := by
  have q1 := fun w => bit_any i w
  have q2 := fun w => rbit_any i w
  have q3 := fun w => has_any a b i w ha hb
  have q4 := fun w => rhas_any a b i w ha hb
  have q5 := fun w => low_any i w
  have q6 := fun w => rlow_any i w
  generalize bhz i = x1 at *
  generalize blz i = y1 at *
  generalize hasz a b i = z at *
  generalize lowb (cl i 128 - 64) = x2 at *
  generalize lowb (min (cl i 128) 64) = y2 at *
  unfold wd at *
  have Q1 := hide_ q1
  have Q2 := hide_ q2
  have Q3 := hide_ q3
  have Q4 := hide_ q4
  have Q5 := hide_ q5
  have Q6 := hide_ q6
  clear q1 q2 q3 q4 q5 q6
  have ez : (z == z) = true := by simp
  go_enter Try.func7, Try.ntmps7
  go_wp2_with fail
  go_region_held3 (fun w' => w'.cell? ⟨w.heap.size, 0, none⟩ = some (.int .u64 (a : Int)) ∧ w'.cell? ⟨w.heap.size, 1, none⟩ = some (.int .u64 (b : Int)) ∧ Below w.heap.size w w')
    (first | (exact keep1 (by assumption) (Nat.le_refl _) (by assumption)) | (exact ⟨by simp, by simp, by go_grown⟩))
    (first | (go_at_call 31; refine (Q1.out _).mono ?_; rintro e w' ⟨rfl, hb⟩) | (go_at_call 32; refine (Q2.out _).mono ?_; rintro e w' ⟨rfl, hb⟩) | (go_at_call 33; refine (Q3.out _).mono ?_; rintro e w' ⟨rfl, hb⟩) | (go_at_call 34; refine (Q4.out _).mono ?_; rintro e w' ⟨rfl, hb⟩) | (go_at_call 35; refine (Q5.out _).mono ?_; rintro e w' ⟨rfl, hb⟩) | (go_at_call 36; refine (Q6.out _).mono ?_; rintro e w' ⟨rfl, hb⟩) | (go_at_call 30; refine (awake2_any _).mono ?_; rintro e w' ⟨rfl, hb⟩))
  rename_i hH
  have bel := hH.2.2
  clear hH
  go_wp2
  go_ret
  exact ⟨rfl, bel⟩

end Go.Proofs.Ytikooaaigdmjmaa
