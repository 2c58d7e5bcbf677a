import Derived.Test.YtickphnfgaibiabProg
import Derived.Test.YtickphnfgaibiabN
import Derived.Test.YtickphnfgaibiabK
import Derived.Test.YtickphnfgaibiabR
import Derived.Test.YtickphnfgaibiabS
import Derived.Test.YtickphnfgaibiabU
import Derived.Below
import Derived.BigQuiet
import Derived.BigRegion
import Derived.Deep.QuietTactic
import Derived.Deep.RegionHeld3
import Derived.Deep.RegionLaw
import Derived.Deep.RegionLawGrows
import Derived.Handy
import Derived.Laws.AppendOwn
import Derived.Laws.AppendOwnNone
import Derived.Laws.BitsAllLaws
import Derived.Laws.BitsLemmas
import Derived.Laws.CopyOwn
import Derived.Laws.OwnMore
import Derived.Laws.Rows
import Derived.Laws.StructEq
import Derived.OpenShut
import Derived.ProofKit
import Derived.RegionTactic
import Derived.WalkKit
import Derived.WalkLawsBesides
import Derived.WalkSmall
import Derived.WalkSpells
namespace Go.Proofs.Ytickphnfgaibiab
open Go Go.RowKit
set_option linter.unusedVariables false
set_option linter.unusedSimpArgs false

/-- bit i is there -/
def hasz (a b : Nat) (i : Int) : Bool := !((a &&& bhz i) == 0 && (b &&& blz i) == 0)

theorem keep1 {base g : Nat} {w0 wa wb : World} {x y : Value} (h : wa.cell? ⟨g, 0, none⟩ = some x ∧ wa.cell? ⟨g, 1, none⟩ = some y ∧ Below base w0 wa) (hw : base ≤ w0.heap.size) (k : Below wa.heap.size wa wb) :
    wb.cell? ⟨g, 0, none⟩ = some x ∧ wb.cell? ⟨g, 1, none⟩ = some y ∧ Below base w0 wb :=
  ⟨cell_later k h.1, cell_later k h.2.1, h.2.2.trans (k.mono (Nat.le_trans hw h.2.2.size))⟩

theorem ret_bool {a b : Bool} (h : a = b) : Ending.returned (.bool a) = .returned (.bool b) := by rw [h]

set_option maxHeartbeats 1000000 in
theorem rhas_any (a b : Nat) (i : Int) (w : World) (ha : a < 18446744073709551616) (hb : b < 18446744073709551616) :
    Calls Try.prog 72 #[wd a b, .int .i64 i] w fun e w' => e = .returned (.bool (hasz a b i)) ∧ Below w.heap.size w w' := by
  unfold hasz
  have q1 := bhz_lt i
  have q2 := blz_lt i
  have HA := fun w => rbit_any i w
  generalize bhz i = x at *
  generalize blz i = y at *
  have HC := fun w => rand_any a b x y w ha hb q1 q2
  generalize a &&& x = u at *
  generalize b &&& y = v at *
  have HD := fun w => rzero_any u v w
  unfold wd at *
  have HA' := hide_ HA
  have HC' := hide_ HC
  have HD' := hide_ HD
  clear HA HC HD
  go_enter Try.func72, Try.ntmps72
  go_wp2_with fail
  go_region_held3 (fun w' => w'.cell? ⟨w.heap.size, 0, none⟩ = some (.int .u64 (a : Int)) ∧ w'.cell? ⟨w.heap.size, 1, none⟩ = some (.int .u64 (b : Int)) ∧ Below w.heap.size w w')
    (first | (exact keep1 (by assumption) (Nat.le_refl _) (by assumption)) | (exact ⟨by simp, by simp, by go_grown⟩))
    (first | (go_at_call 83; refine (HA'.out _).mono ?_; rintro e w' ⟨rfl, hb⟩) | (go_at_call 74; refine (HC'.out _).mono ?_; rintro e w' ⟨rfl, hb⟩) | (go_at_call 75; refine (HD'.out _).mono ?_; rintro e w' ⟨rfl, hb⟩))
  rename_i hH
  have bel := hH.2.2
  clear hH
  go_wp2
  go_ret
  exact ⟨ret_bool (by simp), bel⟩

theorem hasz_nat (a b k : Nat) (h : k < 128) : hasz a b (k : Int) = hasb a b k := by
  unfold hasz
  rw [bhz_nat k h, blz_nat k h, has_val]

set_option maxRecDepth 100000 in
set_option maxHeartbeats 1000000 in
theorem rmany_any (a b : Nat) (w : World) (ha : a < 18446744073709551616) (hb : b < 18446744073709551616) :
    Calls Try.prog 62 #[wd a b] w fun e w' => e = .returned (.int .i64 ((pc a + pc b : Nat) : Int)) ∧ Below w.heap.size w w' := by
  have HK := hide_ (cnt_all a b ha hb)
  have HS : Hid (∀ k : Nat, k < 128 → cnt a b (k + 1) = cnt a b k + (if hasz a b (k : Int) then 1 else 0)) := fun k hk => by rw [hasz_nat a b k hk]; rfl
  have HL : Hid (∀ k, cnt a b k ≤ k) := cnt_le a b
  generalize cnt a b = C at *
  have C0 : Hid (C 0 = 0) := by have := HL.out 0; exact Nat.le_zero.1 this
  have HH := hide_ (fun (i : Int) w => rhas_any a b i w ha hb)
  generalize hasz a b = Z at *
  unfold wd at *
  go_enter Try.func62, Try.ntmps62
  go_wp2
  go_loopw [3, 4] (fun n i wr => ∃ k : Nat, k ≤ 128 ∧ i = .int .i64 k ∧ n = .int .i64 (C k : Nat) ∧ wr.cell? ⟨w.heap.size, 0, none⟩ = some (.int .u64 (a : Int)) ∧ wr.cell? ⟨w.heap.size, 1, none⟩ = some (.int .u64 (b : Int)) ∧ Below w.heap.size w wr) (fun _ i _ => 128 - (intOf i).toNat)
  case atStart => exact ⟨0, by omega, rfl, by rw [C0.out]; rfl, by simp, by simp, by go_grown⟩
  case round =>
    obtain ⟨k, hk, rfl, rfl, c0, c1, bel⟩ := hrel
    have hC := HL.out k
    by_cases hlt : k < 128
    · have hs := HS.out k hlt
      have HSS := hide_ hs
      clear hs
      cases hz : Z (k : Int)
      · rw [hz] at HSS
        go_wp2_with (go_at_call 72; refine (HH.out _ _).mono ?_; rintro e w1 ⟨rfl, b1⟩)
        go_roundw
        case rel => exact ⟨k + 1, by omega, by go_num, by rw [HSS.out]; rfl, cell_later b1 c0, cell_later b1 c1, bel.trans (b1.mono bel.size)⟩
        case measure => simp [intOf]; omega
      · rw [hz] at HSS
        go_wp2_with (go_at_call 72; refine (HH.out _ _).mono ?_; rintro e w1 ⟨rfl, b1⟩)
        go_roundw
        case rel => exact ⟨k + 1, by omega, by go_num, by rw [HSS.out]; simp, cell_later b1 c0, cell_later b1 c1, bel.trans (b1.mono bel.size)⟩
        case measure => simp [intOf]; omega
    · have he : k = 128 := by omega
      subst he
      go_wp2
      go_ret
      exact ⟨ret_int (by rw [HK.out]), bel⟩

end Go.Proofs.Ytickphnfgaibiab
