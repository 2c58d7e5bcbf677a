import Derived.Test.YtmpfpolanndakabProg
import Derived.Test.YtmpfpolanndakabK
import Derived.Test.YtmpfpolanndakabG
import Derived.Test.YtmpfpolanndakabR
import Derived.Test.YtmpfpolanndakabW
import Derived.Test.YtmpfpolanndakabFa
import Derived.Test.YtmpfpolanndakabFe
import Derived.Test.YtmpfpolanndakabHa
import Derived.Below
import Derived.BigQuiet
import Derived.BigRegion
import Derived.ChangeAlike
import Derived.ChangeKeysEq
import Derived.ChangeSame
import Derived.DataElems
import Derived.Deep.MidRow
import Derived.Deep.QuietTactic
import Derived.Deep.RegionHeld
import Derived.Deep.RegionHeld3
import Derived.Deep.RegionLaw
import Derived.Deep.RegionLawGrows
import Derived.Deep.RegionWith
import Derived.Deep.WholeRow
import Derived.Great.BuildSlice
import Derived.Handy
import Derived.Laws.AppendOwn
import Derived.Laws.AppendOwnNone
import Derived.Laws.BitsAllLaws
import Derived.Laws.BitsLemmas
import Derived.Laws.CopyOwn
import Derived.Laws.OwnMore
import Derived.Laws.Rows
import Derived.Laws.StructEq
import Derived.Lib.SmallJoins
import Derived.OpenShut
import Derived.ProofKit
import Derived.RegionTactic
import Derived.WalkKit
import Derived.WalkLawsBesides
import Derived.WalkSmall
import Derived.WalkSpells
import Derived.WideShapes
namespace Go.Proofs.Ytmpfpolanndakab
open Go Go.RowKit
set_option linter.unusedVariables false
set_option linter.unusedSimpArgs false

/-- a field's number of two halves; none: zero -/
def hget (l : List (Nat × Nat)) (f : Int) : Nat × Nat := if 0 ≤ f then (l[f.toNat]?).getD (0, 0) else (0, 0)

theorem hget_in {l : List (Nat × Nat)} {j : Nat} {p : Nat × Nat} (h : l[j]? = some p) : hget l (j : Int) = p := by
  simp [hget, h]

theorem hget_out {l : List (Nat × Nat)} {f : Int} (hl : l.length = 24) (h : ¬ (0 ≤ f ∧ f < 24)) : hget l f = (0, 0) := by
  unfold hget
  split
  · rw [List.getElem?_eq_none (by omega)]; rfl
  · rfl

def wdp (p : Nat × Nat) : Value := wd p.1 p.2

/-- a header with another number at a field -/
def hset (l : List (Nat × Nat)) (f : Int) (p : Nat × Nat) : List (Nat × Nat) := if 0 ≤ f then l.set f.toNat p else l

theorem hset_out {l : List (Nat × Nat)} {f : Int} {p : Nat × Nat} (hl : l.length = 24) (h : ¬ (0 ≤ f ∧ f < 24)) : hset l f p = l := by
  unfold hset
  split
  · rw [List.set_eq_of_length_le (by omega)]
  · rfl

theorem fok_no {f : Int} (h : ¬ (0 ≤ f ∧ f < 24)) : fok f = false := by simp [fok]; omega

theorem fok_in {j : Nat} (h : j < 24) : fok (j : Int) = true := by simp [fok]; omega

set_option maxHeartbeats 1000000 in
theorem hget_any (l : List (Nat × Nat)) (hl : isH l) (f : Int) (w : World) :
    Calls Try.prog 6 #[hv l, .int .i64 f] w fun e w' => e = .returned (wdp (hget l f)) ∧ Below w.heap.size w w' := by
  unfold hv
  by_cases h : 0 ≤ f ∧ f < 24
  · obtain ⟨j, rfl⟩ : ∃ j : Nat, f = (j : Int) := ⟨f.toNat, by omega⟩
    have hj : j < 24 := by omega
    obtain ⟨x, y, hp, _, _⟩ := hl.get hj
    rw [hget_in hp]
    unfold wdp wd
    have q1 := hide_ (fun w => fright_any (j : Int) w)
    rw [fok_in hj] at q1
    have hb := HB.new w l
    have d : ∀ o, ((w.alloc (.cells (wdc l).toArray 26)).alloc o).cell? ⟨w.heap.size, j * 2, none⟩ = some (.int .u64 (x : Int)) := fun o => cell_later (by go_grown) (hb.cells hp).1
    have d' : ∀ o, ((w.alloc (.cells (wdc l).toArray 26)).alloc o).cell? ⟨w.heap.size, j * 2 + 1, none⟩ = some (.int .u64 (y : Int)) := fun o => cell_later (by go_grown) (hb.cells hp).2.1
    have hj' : (j : Int) < 24 := by omega
    clear hp hb h
    go_enter Try.func6, Try.ntmps6
    go_wp2_with (go_at_call 5; refine (q1.out _).mono ?_; rintro e w1 ⟨rfl, rfl⟩)
    go_returns
    exact ⟨rfl, by go_grown⟩
  · rw [hget_out hl.1 h]
    unfold wdp wd
    have q1 := hide_ (fun w => fright_any f w)
    rw [fok_no h] at q1
    clear h
    go_enter Try.func6, Try.ntmps6
    go_wp2_with (go_at_call 5; refine (q1.out _).mono ?_; rintro e w1 ⟨rfl, rfl⟩)
    go_returns
    exact ⟨rfl, by go_grown⟩

end Go.Proofs.Ytmpfpolanndakab
