import Derived.Test.YtmpfpolanndakaaProg
import Derived.Test.YtmpfpolanndakaaG
import Derived.Test.YtmpfpolanndakaaCa
import Derived.Below
import Derived.BigQuiet
import Derived.BigRegion
import Derived.Deep.QuietTactic
import Derived.Deep.RegionHeld3
import Derived.Deep.RegionLaw
import Derived.Deep.RegionLawGrows
import Derived.Handy
import Derived.Laws.AppendOwn
import Derived.Laws.AppendOwnNone
import Derived.Laws.BitsAllLaws
import Derived.Laws.BitsLemmas
import Derived.Laws.CopyOwn
import Derived.Laws.OwnMore
import Derived.Laws.Rows
import Derived.Laws.StructEq
import Derived.OpenShut
import Derived.ProofKit
import Derived.RegionTactic
import Derived.WalkKit
import Derived.WalkLawsBesides
import Derived.WalkSmall
import Derived.WalkSpells
namespace Go.Proofs.Ytmpfpolanndakaa
open Go Go.RowKit
set_option linter.unusedVariables false
set_option linter.unusedSimpArgs false

theorem gok_out {l : List Int} {size : Int} (h : gok l size = false) : size < 0 ∨ 16 < size ∨ (l.length : Int) < size := by
  simp [gok] at h
  omega

theorem gok_in {l : List Int} {size : Int} (h : gok l size = true) : 0 ≤ size ∧ size ≤ 16 ∧ size ≤ (l.length : Int) := by
  simp [gok] at h
  omega

set_option maxHeartbeats 1000000 in
theorem wget_no (a : Option Addr) (cap : Nat) (l : List Int) (size : Int) (w : World) (hm : l.length ≤ 2 ^ 63 - 1) (h : gok l size = false) :
    Calls Try.prog 55 #[.slice a l.length cap, .int .i64 size] w fun e w' => e = .returned (.tuple #[.agg #[.int .u64 0, .int .u64 0], .bool false]) ∧ Below w.heap.size w w' := by
  have hd := gok_out h
  clear h
  by_cases h1 : size < 0
  · go_enter Try.func55, Try.ntmps55
    go_wp2
    exact bodyPost_ret (v := .tuple #[.agg #[.int .u64 0, .int .u64 0], .bool false]) (by simp [results, Try.results55, go_sem]) rfl ⟨rfl, by go_grown⟩
  · by_cases h2 : 16 < size
    · go_enter Try.func55, Try.ntmps55
      go_wp2
      exact bodyPost_ret (v := .tuple #[.agg #[.int .u64 0, .int .u64 0], .bool false]) (by simp [results, Try.results55, go_sem]) rfl ⟨rfl, by go_grown⟩
    · have h3 : (l.length : Int) < size := by omega
      clear hd
      go_enter Try.func55, Try.ntmps55
      go_wp2
      exact bodyPost_ret (v := .tuple #[.agg #[.int .u64 0, .int .u64 0], .bool false]) (by simp [results, Try.results55, go_sem]) rfl ⟨rfl, by go_grown⟩

set_option maxHeartbeats 1000000 in
theorem rwget_no (a : Option Addr) (cap : Nat) (l : List Int) (size : Int) (w : World) (hm : l.length ≤ 2 ^ 63 - 1) (h : gok l size = false) :
    Calls Try.prog 56 #[.slice a l.length cap, .int .i64 size] w fun e w' => e = .returned (.tuple #[.agg #[.int .u64 0, .int .u64 0], .bool false]) ∧ Below w.heap.size w w' := by
  have hd := gok_out h
  clear h
  by_cases h1 : size < 0
  · go_enter Try.func56, Try.ntmps56
    go_wp2
    exact bodyPost_ret (v := .tuple #[.agg #[.int .u64 0, .int .u64 0], .bool false]) (by simp [results, Try.results56, go_sem]) rfl ⟨rfl, by go_grown⟩
  · by_cases h2 : 16 < size
    · go_enter Try.func56, Try.ntmps56
      go_wp2
      exact bodyPost_ret (v := .tuple #[.agg #[.int .u64 0, .int .u64 0], .bool false]) (by simp [results, Try.results56, go_sem]) rfl ⟨rfl, by go_grown⟩
    · have h3 : (l.length : Int) < size := by omega
      clear hd
      go_enter Try.func56, Try.ntmps56
      go_wp2
      exact bodyPost_ret (v := .tuple #[.agg #[.int .u64 0, .int .u64 0], .bool false]) (by simp [results, Try.results56, go_sem]) rfl ⟨rfl, by go_grown⟩

end Go.Proofs.Ytmpfpolanndakaa
