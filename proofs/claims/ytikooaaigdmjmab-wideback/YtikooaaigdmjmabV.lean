import Derived.Test.YtikooaaigdmjmabProg
import Derived.Test.YtikooaaigdmjmabK
import Derived.Test.YtikooaaigdmjmabG
import Derived.Test.YtikooaaigdmjmabR
import Derived.Test.YtikooaaigdmjmabU
import Derived.Below
import Derived.BigQuiet
import Derived.Deep.QuietTactic
import Derived.Deep.RegionHeld3
import Derived.Deep.RegionLaw
import Derived.Deep.RegionLawGrows
import Derived.Handy
import Derived.Laws.AppendOwn
import Derived.Laws.AppendOwnNone
import Derived.Laws.BitsAllLaws
import Derived.Laws.BitsLemmas
import Derived.Laws.CopyOwn
import Derived.Laws.OwnMore
import Derived.Laws.StructEq
import Derived.OpenShut
import Derived.ProofKit
import Derived.RegionTactic
import Derived.WalkKit
import Derived.WalkLawsBesides
import Derived.WalkSmall
import Derived.WalkSpells
namespace Go.Proofs.Ytikooaaigdmjmab
open Go Go.RowKit
set_option linter.unusedVariables false
set_option linter.unusedSimpArgs false

/-- bit i is there -/
def hasz (a b : Nat) (i : Int) : Bool := !((a &&& bhz i) == 0 && (b &&& blz i) == 0)

theorem keep1 {base g : Nat} {w0 wa wb : World} {x y : Value} (h : wa.cell? ⟨g, 0, none⟩ = some x ∧ wa.cell? ⟨g, 1, none⟩ = some y ∧ Below base w0 wa) (hw : base ≤ w0.heap.size) (k : Below wa.heap.size wa wb) :
    wb.cell? ⟨g, 0, none⟩ = some x ∧ wb.cell? ⟨g, 1, none⟩ = some y ∧ Below base w0 wb :=
  ⟨cell_later k h.1, cell_later k h.2.1, h.2.2.trans (k.mono (Nat.le_trans hw h.2.2.size))⟩

theorem ret_bool {a b : Bool} (h : a = b) : Ending.returned (.bool a) = .returned (.bool b) := by rw [h]

set_option maxHeartbeats 1000000 in
theorem has_any (a b : Nat) (i : Int) (w : World) (ha : a < 18446744073709551616) (hb : b < 18446744073709551616) :
    Calls Try.prog 17 #[wd a b, .int .i64 i] w fun e w' => e = .returned (.bool (hasz a b i)) ∧ Below w.heap.size w w' := by
  unfold hasz
  have q1 := bhz_lt i
  have q2 := blz_lt i
  have HA := fun w => bit_any i w
  generalize bhz i = x at *
  generalize blz i = y at *
  have HC := fun w => and_any a b x y w ha hb q1 q2
  generalize a &&& x = u at *
  generalize b &&& y = v at *
  have HD := fun w => zero_any u v w
  unfold wd at *
  have HA' := hide_ HA
  have HC' := hide_ HC
  have HD' := hide_ HD
  clear HA HC HD
  go_enter Try.func17, Try.ntmps17
  go_wp2_with fail
  go_region_held3 (fun w' => w'.cell? ⟨w.heap.size, 0, none⟩ = some (.int .u64 (a : Int)) ∧ w'.cell? ⟨w.heap.size, 1, none⟩ = some (.int .u64 (b : Int)) ∧ Below w.heap.size w w')
    (first | (exact keep1 (by assumption) (Nat.le_refl _) (by assumption)) | (exact ⟨by simp, by simp, by go_grown⟩))
    (first | (go_at_call 14; refine (HA'.out _).mono ?_; rintro e w' ⟨rfl, hb⟩) | (go_at_call 12; refine (HC'.out _).mono ?_; rintro e w' ⟨rfl, hb⟩) | (go_at_call 16; refine (HD'.out _).mono ?_; rintro e w' ⟨rfl, hb⟩))
  rename_i hH
  have bel := hH.2.2
  clear hH
  go_wp2
  go_ret
  exact ⟨ret_bool (by simp), bel⟩

end Go.Proofs.Ytikooaaigdmjmab
