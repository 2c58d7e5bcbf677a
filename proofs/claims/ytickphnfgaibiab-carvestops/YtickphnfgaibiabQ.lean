import Derived.Test.YtickphnfgaibiabProg
import Derived.Test.YtickphnfgaibiabN
import Derived.Test.YtickphnfgaibiabP
import Derived.Below
import Derived.BigQuiet
import Derived.BigRegion
import Derived.Deep.QuietTactic
import Derived.Deep.RegionHeld3
import Derived.Deep.RegionLaw
import Derived.Deep.RegionLawGrows
import Derived.Handy
import Derived.Laws.AppendOwn
import Derived.Laws.AppendOwnNone
import Derived.Laws.BitsAllLaws
import Derived.Laws.BitsLemmas
import Derived.Laws.CopyOwn
import Derived.Laws.OwnMore
import Derived.Laws.Rows
import Derived.Laws.StructEq
import Derived.OpenShut
import Derived.ProofKit
import Derived.RegionTactic
import Derived.WalkKit
import Derived.WalkLawsBesides
import Derived.WalkSmall
import Derived.WalkSpells
namespace Go.Proofs.Ytickphnfgaibiab
open Go Go.RowKit
set_option linter.unusedVariables false
set_option linter.unusedSimpArgs false

theorem wu64 (n : Nat) (h : n < 18446744073709551616) : IntKind.u64.wrap (n : Int) = (n : Int) := by
  rw [IntKind.wrap_u64]; omega

theorem oc_step (X d M y : Nat) (hd : 0 < d) (hX : X < 18446744073709551616) (hM : M < 18446744073709551616) (hy : (X / d &&& M) + (X &&& M) = y) (hyb : y < 18446744073709551616) :
    IntKind.u64.wrap (bits .and .u64 ((X : Int) / (d : Nat)) (M : Nat) + bits .and .u64 (X : Int) (M : Nat)) = (y : Int) := by
  have hlt : X / d ≤ X := Nat.div_le_self _ _
  have e : ((X : Int) / (d : Nat)) = ((X / d : Nat) : Int) := by omega
  rw [e, u64_and_nat _ _ (by omega) hM, u64_and_nat _ _ hX hM, ← Int.natCast_add, hy, wu64 y hyb]

theorem dle_bound : ∀ n x, dle 16 4 n x → x < 16 ^ n → 15 * x + 4 ≤ 4 * 16 ^ n
  | 0, x, _, h => by simp at h; omega
  | n + 1, x, h, hx => by
    have hx' : x / 16 < 16 ^ n := by rw [Nat.pow_succ] at hx; exact Nat.div_lt_of_lt_mul (by rw [Nat.mul_comm]; exact hx)
    have ih := dle_bound n (x / 16) h.2 hx'
    have h1 := h.1
    rw [Nat.pow_succ]
    omega

theorem oc_rules (X : Nat) (hX : X < 18446744073709551616) : ∃ y1 y2 y3 a b c : Nat,
    IntKind.u64.wrap (bits .and .u64 ((X : Int) / 2) 6148914691236517205 + bits .and .u64 (X : Int) 6148914691236517205) = (y1 : Int) ∧
    IntKind.u64.wrap (bits .and .u64 ((y1 : Int) / 4) 3689348814741910323 + bits .and .u64 (y1 : Int) 3689348814741910323) = (y2 : Int) ∧
    bits .and .u64 (IntKind.u64.wrap ((y2 : Int) / 16 + (y2 : Int))) 1085102592571150095 = (y3 : Int) ∧
    IntKind.u64.wrap ((y3 : Int) + (y3 : Int) / 256) = (a : Int) ∧
    IntKind.u64.wrap ((a : Int) + (a : Int) / 65536) = (b : Int) ∧
    IntKind.u64.wrap ((b : Int) + (b : Int) / 4294967296) = (c : Int) ∧
    c < 9223372036854775808 ∧ c % 128 = pcr 64 X := by
  have m1 : mk 2 32 = 6148914691236517205 := by decide
  have m2 : mk 4 16 = 3689348814741910323 := by decide
  have m3 : mk 16 8 = 1085102592571150095 := by decide
  have s1 := step1 32 X
  have s2 := step2 16 (nb 2 32 X)
  obtain ⟨q1, q2, q3⟩ := nb2_sum 32 X
  obtain ⟨q4, q5, q6⟩ := nb4_sum 16 (nb 2 32 X) q2
  obtain ⟨q7, q8, q9⟩ := nb16_sum 8 (nb 4 16 (nb 2 32 X)) q5
  have s3 := step3 8 (nb 4 16 (nb 2 32 X)) q5 (Nat.lt_of_lt_of_le q6 (by decide))
  rw [m1] at s1
  rw [m2] at s2
  rw [m3] at s3
  generalize nb 2 32 X = y1 at *
  generalize nb 4 16 y1 = y2 at *
  generalize nb 16 8 y2 = y3 at *
  have b1 : y1 < 18446744073709551616 := Nat.lt_of_lt_of_le q3 (by decide)
  have b2 : y2 < 18446744073709551616 := Nat.lt_of_lt_of_le q6 (by decide)
  have b3 : y3 < 18446744073709551616 := Nat.lt_of_lt_of_le q9 (by decide)
  obtain ⟨a, ha⟩ : ∃ a, a = y3 + y3 / 256 := ⟨_, rfl⟩
  obtain ⟨b, hb⟩ : ∃ b, b = a + a / 65536 := ⟨_, rfl⟩
  obtain ⟨c, hc⟩ : ∃ c, c = b + b / 4294967296 := ⟨_, rfl⟩
  obtain ⟨f1, f2, f3, f4⟩ := fold8 y3 a b c q8 q9 ha hb hc
  refine ⟨y1, y2, y3, a, b, c, oc_step X 2 _ y1 (by decide) hX (by decide) s1 b1, oc_step y1 4 _ y2 (by decide) b1 (by decide) s2 b2, ?_, ?_, ?_, ?_, f3, ?_⟩
  · have hs : y2 / 16 + y2 < 18446744073709551616 := by
      have := dle_bound 16 y2 q5 q6
      simp only [Nat.reducePow] at this
      clear s1 s2 s3 ha hb hc f1 f2 f3 f4
      omega
    have e : ((y2 : Int) / 16 + (y2 : Int)) = ((y2 / 16 + y2 : Nat) : Int) := by omega
    rw [e, wu64 _ hs]
    have := u64_and_nat (y2 / 16 + y2) 1085102592571150095 hs (by decide)
    rw [s3] at this
    exact this
  · rw [show ((y3 : Int) + (y3 : Int) / 256) = (a : Int) by rw [ha]; simp]; exact wu64 _ f1
  · rw [show ((a : Int) + (a : Int) / 65536) = (b : Int) by rw [hb]; simp]; exact wu64 _ f2
  · rw [show ((b : Int) + (b : Int) / 4294967296) = (c : Int) by rw [hc]; simp]; exact wu64 _ (Nat.lt_trans f3 (by decide))
  · rw [f4, q7, q4, q1]

set_option maxHeartbeats 400000 in
theorem oc_any (X : Nat) (w : World) (hX : X < 18446744073709551616) :
    Calls Try.prog 61 #[.int .u64 (X : Int)] w fun e w' => e = .returned (.int .i64 (pcr 64 X : Nat)) ∧ w = w' := by
  obtain ⟨y1, y2, y3, a, b, c, r1, r2, r3, r4, r5, r6, hc, hr⟩ := oc_rules X hX
  have r7 : bits .and .i64 (c : Int) 127 = ((c % 128 : Nat) : Int) := by
    have := bits_mask .i64 63 (by decide) (fun n h0 h1 => by rw [IntKind.wrap_i64]; omega) 7 (by decide) (c : Int) (by omega) (by omega)
    simp only [Int.reducePow, Int.reduceSub] at this
    rw [this]; omega
  rw [hr] at r7
  have hx0 : (0 : Int) ≤ (X : Int) := by omega
  clear hr
  go_enter Try.func61, Try.ntmps61
  go_wp2
  go_ret
  exact ⟨ret_int rfl, rfl⟩

end Go.Proofs.Ytickphnfgaibiab
