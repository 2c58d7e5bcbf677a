import Derived.Test.YthhijfphfcmniaaGreatOme
import Derived.Deep.RegionHeld3
import Derived.Deep.RegionWith
import Derived.Deep.MidRow
import Derived.Deep.Cut
set_option maxRecDepth 100000
set_option maxHeartbeats 8000000
set_option linter.unusedVariables false
set_option linter.unusedSimpArgs false
namespace Go.Proofs.YthhijfphfcmniaaGreat
open Go Go.RowKit
theorem oret1 {a b : Bool} (h : a = b) : Ending.returned (.bool a) = .returned (.bool b) := by rw [h]
theorem fldF (x y z : Value) (w : World) : (Instr.field 44 (.agg #[x, y, z]) 0).run Tryz.prog w = .ok x w := by kernel_rfl
theorem oright_any (f : Int) (m : Bool) (a b c d : Nat) (w : World) (ha : a < 18446744073709551616) (hb : b < 18446744073709551616) (hc : c < 18446744073709551616) (hd : d < 18446744073709551616) :
    Calls Tryz.prog 139 #[ov f m a b c d] w fun e w' => e = .returned (.bool (rgt f m a b c d)) ∧ Below w.heap.size w w' := by
  have A0 := h_ (AB.at0 w 59 [.int .i64 f, .bool m, .int .u64 (a : Int), .int .u64 (b : Int), .int .u64 (c : Int), .int .u64 (d : Int)])
  have B0 := h_ (below1 w (.cells #[.int .i64 f, .bool m, .int .u64 (a : Int), .int .u64 (b : Int), .int .u64 (c : Int), .int .u64 (d : Int)] 59))
  have q1 := h_ (fun w => fright_any f w)
  have q2 := fun w => check_any f m a b c d w ha hb hc hd
  have q3 := h_ (fun w => fmask_any f w)
  have q4 : Hid (∀ w, Calls Tryz.prog 79 #[wd c d] w fun e w' => e = .returned (.bool (zz c d)) ∧ Below w.heap.size w w') := h_ (fun w => zero_any c d w)
  obtain ⟨R, hR⟩ : ∃ R, rgt f m a b c d = R := ⟨_, rfl⟩
  rw [hR]
  unfold rgt at hR
  have HR := h_ hR
  clear hR
  generalize chk f m a b c d = k at *
  generalize fok f = z1 at *
  generalize fmask f = z3 at *
  generalize zz c d = z4 at *
  clear ha hb hc hd
  obtain ⟨c0, c1, c2, c3, c4, c5, -⟩ := A0.out.six
  unfold ov fcode fv wd at *
  have hf := fun x y z w => fldF x y z w
  cases z1
  · go_enter Tryz.func139, Tryz.ntmps139
    go_wp2_with (first | (go_at_call 160; refine (q1.out _).mono ?_; rintro e w1 ⟨rfl, rfl⟩))
    go_ret
    exact ⟨oret1 (by rw [← HR.out]; rfl), B0.out⟩
  · by_cases hk : k = 0
    · subst hk
      rw [if_pos rfl] at q2
      have q2 := h_ q2
      cases m
      · go_enter Tryz.func139, Tryz.ntmps139
        go_wp2_with (first | (go_at_call 160; refine (q1.out _).mono ?_; rintro e w1 ⟨rfl, rfl⟩) | (go_at_call 161; refine (q2.out _).mono ?_; rintro e w2 ⟨rfl, b2⟩; obtain ⟨s0, s1, s2, s3, s4, s5, -⟩ := (A0.out.later b2).six) | (go_at_call 79; refine (q4.out _).mono ?_; rintro e w3 ⟨rfl, b3⟩))
        go_ret
        exact ⟨oret1 (by rw [← HR.out]; rfl), B0.out.trans ((b2.trans (b3.mono b2.size)).mono B0.out.size)⟩
      · go_enter Tryz.func139, Tryz.ntmps139
        go_wp2_with (first | (go_at_call 160; refine (q1.out _).mono ?_; rintro e w1 ⟨rfl, rfl⟩) | (go_at_call 161; refine (q2.out _).mono ?_; rintro e w2 ⟨rfl, b2⟩; obtain ⟨s0, s1, s2, s3, s4, s5, -⟩ := (A0.out.later b2).six) | (go_at_call 162; refine (q3.out _).mono ?_; rintro e w3 ⟨rfl, b3⟩))
        go_ret
        exact ⟨oret1 (by rw [← HR.out]; rfl), B0.out.trans ((b2.trans (b3.mono b2.size)).mono B0.out.size)⟩
    · rw [if_neg hk] at q2
      have q2 := h_ q2
      go_enter Tryz.func139, Tryz.ntmps139
      go_wp2_with (first | (go_at_call 160; refine (q1.out _).mono ?_; rintro e w1 ⟨rfl, rfl⟩) | (go_at_call 161; refine (q2.out _).mono ?_; rintro e w2 ⟨rfl, b2⟩; obtain ⟨s0, s1, s2, s3, s4, s5, -⟩ := (A0.out.later b2).six))
      go_ret
      exact ⟨oret1 (by rw [← HR.out]; simp [hk]), B0.out.trans (b2.mono B0.out.size)⟩
end Go.Proofs.YthhijfphfcmniaaGreat
