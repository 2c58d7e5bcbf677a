import Derived.Test.YtmpfpolanndakabProg
import Derived.Test.YtmpfpolanndakabK
import Derived.Test.YtmpfpolanndakabG
import Derived.Below
import Derived.BigQuiet
import Derived.BigRegion
import Derived.ChangeAlike
import Derived.ChangeKeysEq
import Derived.ChangeSame
import Derived.DataElems
import Derived.Deep.MidRow
import Derived.Deep.QuietTactic
import Derived.Deep.RegionHeld
import Derived.Deep.RegionHeld3
import Derived.Deep.RegionLaw
import Derived.Deep.RegionLawGrows
import Derived.Deep.RegionWith
import Derived.Deep.WholeRow
import Derived.Great.BuildSlice
import Derived.Handy
import Derived.Laws.AppendOwn
import Derived.Laws.AppendOwnNone
import Derived.Laws.BitsAllLaws
import Derived.Laws.BitsLemmas
import Derived.Laws.CopyOwn
import Derived.Laws.OwnMore
import Derived.Laws.Rows
import Derived.Laws.StructEq
import Derived.Lib.SmallJoins
import Derived.OpenShut
import Derived.ProofKit
import Derived.RegionTactic
import Derived.WalkKit
import Derived.WalkLawsBesides
import Derived.WalkSmall
import Derived.WalkSpells
import Derived.WideShapes
namespace Go.Proofs.Ytmpfpolanndakab
open Go Go.RowKit
set_option linter.unusedVariables false
set_option linter.unusedSimpArgs false

/-- a field's name, number, bits, and whether it may be masked -/
def fname : Int → ByteArray
  | 0 => ⟨#[105, 110, 95, 112, 111, 114, 116]⟩
  | 1 => ⟨#[109, 101, 116, 97, 100, 97, 116, 97]⟩
  | 2 => ⟨#[101, 116, 104, 95, 100, 115, 116]⟩
  | 3 => ⟨#[101, 116, 104, 95, 115, 114, 99]⟩
  | 4 => ⟨#[101, 116, 104, 95, 116, 121, 112, 101]⟩
  | 5 => ⟨#[118, 108, 97, 110, 95, 118, 105, 100]⟩
  | 6 => ⟨#[118, 108, 97, 110, 95, 112, 99, 112]⟩
  | 7 => ⟨#[105, 112, 95, 100, 115, 99, 112]⟩
  | 8 => ⟨#[105, 112, 95, 101, 99, 110]⟩
  | 9 => ⟨#[105, 112, 95, 112, 114, 111, 116, 111]⟩
  | 10 => ⟨#[105, 112, 118, 52, 95, 115, 114, 99]⟩
  | 11 => ⟨#[105, 112, 118, 52, 95, 100, 115, 116]⟩
  | 12 => ⟨#[116, 99, 112, 95, 115, 114, 99]⟩
  | 13 => ⟨#[116, 99, 112, 95, 100, 115, 116]⟩
  | 14 => ⟨#[117, 100, 112, 95, 115, 114, 99]⟩
  | 15 => ⟨#[117, 100, 112, 95, 100, 115, 116]⟩
  | 16 => ⟨#[105, 99, 109, 112, 118, 52, 95, 116, 121, 112, 101]⟩
  | 17 => ⟨#[105, 99, 109, 112, 118, 52, 95, 99, 111, 100, 101]⟩
  | 18 => ⟨#[97, 114, 112, 95, 111, 112]⟩
  | 19 => ⟨#[97, 114, 112, 95, 115, 112, 97]⟩
  | 20 => ⟨#[97, 114, 112, 95, 116, 112, 97]⟩
  | 21 => ⟨#[105, 112, 118, 54, 95, 115, 114, 99]⟩
  | 22 => ⟨#[105, 112, 118, 54, 95, 100, 115, 116]⟩
  | 23 => ⟨#[109, 112, 108, 115, 95, 108, 97, 98, 101, 108]⟩
  | _ => ⟨#[]⟩

def fid : Int → Int
  | 0 => 0
  | 1 => 2
  | 2 => 3
  | 3 => 4
  | 4 => 5
  | 5 => 6
  | 6 => 7
  | 7 => 8
  | 8 => 9
  | 9 => 10
  | 10 => 11
  | 11 => 12
  | 12 => 13
  | 13 => 14
  | 14 => 15
  | 15 => 16
  | 16 => 19
  | 17 => 20
  | 18 => 21
  | 19 => 22
  | 20 => 23
  | 21 => 26
  | 22 => 27
  | 23 => 34
  | _ => -1

def fbits : Int → Nat
  | 0 => 32
  | 1 => 64
  | 2 => 48
  | 3 => 48
  | 4 => 16
  | 5 => 13
  | 6 => 3
  | 7 => 6
  | 8 => 2
  | 9 => 8
  | 10 => 32
  | 11 => 32
  | 12 => 16
  | 13 => 16
  | 14 => 16
  | 15 => 16
  | 16 => 8
  | 17 => 8
  | 18 => 16
  | 19 => 32
  | 20 => 32
  | 21 => 128
  | 22 => 128
  | 23 => 20
  | _ => 0

def fmask : Int → Bool
  | 0 => false
  | 1 => true
  | 2 => true
  | 3 => true
  | 4 => false
  | 5 => true
  | 6 => false
  | 7 => false
  | 8 => false
  | 9 => false
  | 10 => true
  | 11 => true
  | 12 => false
  | 13 => false
  | 14 => false
  | 15 => false
  | 16 => false
  | 17 => false
  | 18 => false
  | 19 => true
  | 20 => true
  | 21 => true
  | 22 => true
  | 23 => false
  | _ => false

def fok (f : Int) : Bool := decide (0 ≤ f) && decide (f < 24)

def ofv (f : Int) : Value := .agg #[.string (fname f), .int .i64 (fid f), .int .i64 (fbits f : Int), .bool (fmask f)]

theorem no_field {f : Int} (h : ¬ (0 ≤ f ∧ f < 24)) : fname f = ⟨#[]⟩ ∧ fid f = -1 ∧ fbits f = 0 ∧ fmask f = false := by
  unfold fname fid fbits fmask
  refine ⟨?_, ?_, ?_, ?_⟩ <;> split <;> first | rfl | omega

set_option maxHeartbeats 400000 in
theorem fright_any (f : Int) (w : World) :
    Calls Try.prog 5 #[.int .i64 f] w fun e w' => e = .returned (.bool (fok f)) ∧ w = w' := by
  unfold fok
  by_cases h1 : 0 ≤ f
  · by_cases h2 : f < 24
    · go_enter Try.func5, Try.ntmps5
      go_wp2
      go_ret
      exact ⟨by simp [*], rfl⟩
    · go_enter Try.func5, Try.ntmps5
      go_wp2
      go_ret
      exact ⟨by simp [*], rfl⟩
  · go_enter Try.func5, Try.ntmps5
    go_wp2
    go_ret
    exact ⟨by simp [*]; omega, rfl⟩

set_option maxHeartbeats 400000 in
theorem of_no (f : Int) (w : World) (h : fok f = false) :
    Calls Try.prog 20 #[.int .i64 f] w fun e w' => e = .returned (ofv f) ∧ Below w.heap.size w w' := by
  have H := hide_ h
  have hn : ¬ (0 ≤ f ∧ f < 24) := by intro k; simp [fok, k] at h
  obtain ⟨e1, e2, e3, e4⟩ := no_field hn
  unfold ofv
  rw [e1, e2, e3, e4]
  clear h hn e1 e2 e3 e4
  go_enter Try.func20, Try.ntmps20
  go_wp2_with (go_at_call 5; refine (fright_any _ _).mono ?_; rintro e w' ⟨rfl, rfl⟩; rw [H.out])
  go_returns
  exact ⟨rfl, by go_grown⟩

end Go.Proofs.Ytmpfpolanndakab
