import Derived.Test.YtmpfpolanndakabProg
import Derived.Test.YtmpfpolanndakabK
import Derived.Test.YtmpfpolanndakabG
import Derived.Test.YtmpfpolanndakabH
import Derived.Test.YtmpfpolanndakabR
import Derived.Test.YtmpfpolanndakabS
import Derived.Test.YtmpfpolanndakabT
import Derived.Test.YtmpfpolanndakabW
import Derived.Test.YtmpfpolanndakabX
import Derived.Test.YtmpfpolanndakabY
import Derived.Below
import Derived.BigQuiet
import Derived.BigRegion
import Derived.Deep.QuietTactic
import Derived.Deep.RegionHeld3
import Derived.Deep.RegionLaw
import Derived.Deep.RegionLawGrows
import Derived.Handy
import Derived.Laws.AppendOwn
import Derived.Laws.AppendOwnNone
import Derived.Laws.BitsAllLaws
import Derived.Laws.BitsLemmas
import Derived.Laws.CopyOwn
import Derived.Laws.OwnMore
import Derived.Laws.Rows
import Derived.Laws.StructEq
import Derived.OpenShut
import Derived.ProofKit
import Derived.RegionTactic
import Derived.WalkKit
import Derived.WalkLawsBesides
import Derived.WalkSmall
import Derived.WalkSpells
namespace Go.Proofs.Ytmpfpolanndakab
open Go Go.RowKit
set_option linter.unusedVariables false
set_option linter.unusedSimpArgs false

set_option maxHeartbeats 400000 in
theorem wput_0 (v : Value) (l : List Int) (a b : Nat) (size : Int) (w : World) (hB : Bytes w v l) (hl : l.length ≤ 100000000000000) (hs : cl size 16 = 0) :
    Calls Try.prog 16 #[v, .agg #[.int .u64 (a : Int), .int .u64 (b : Int)], .int .i64 size] w fun e w' => ∃ r, e = .returned r ∧ w'.ownsRow w.heap.size 5 1 r l.length (u8s l) ∧ Below w.heap.size w w' := by
  have HB : Hid (Bytes w v l) := hB
  have HH : Hid (∀ w, Calls Try.prog 18 #[.int .i64 size, .int .i64 16] w fun e w' => e = .returned (.int .i64 0) ∧ w = w') := fun w => by
    have := hold_16 size w
    rwa [hs] at this
  clear hB hs
  go_enter Try.func16, Try.ntmps16
  go_wp2_with (first | (go_at_call 18; refine (HH.out _).mono ?_; rintro e w' ⟨rfl, rfl⟩) | (go_at_call 21; refine (bclone_any v l _ (HB.out.later (by go_grown)) hl).mono ?_; rintro e w' ⟨r, rfl, hown, hbel⟩))
  go_ret
  exact ⟨r, rfl, ownsRow_base hown (by simp), (by go_grown : Below w.heap.size w (w.alloc (.cells #[.int .u64 (a : Int), .int .u64 (b : Int)] 24))).trans (hbel.mono (by simp))⟩

/-- what is put behind -/
def wtail (a b : Nat) (size : Int) : List Int := (w16 a b).drop (16 - cl size 16)

theorem wtail_length (a b : Nat) (size : Int) : (wtail a b size).length = cl size 16 := by
  have := cl_le size 16
  unfold wtail; rw [List.length_drop, w16_length]; omega

theorem wput_any (v : Value) (l : List Int) (a b : Nat) (size : Int) (w : World) (hB : Bytes w v l) (hl : l.length ≤ 100000000000000) (ha : a < 18446744073709551616) (hb : b < 18446744073709551616) :
    Calls Try.prog 16 #[v, wd a b, .int .i64 size] w fun e w' => ∃ r, e = .returned r ∧ Bytes w' r (l ++ wtail a b size) ∧ Below w.heap.size w w' := by
  have hcl := cl_le size 16
  have hlen := wtail_length a b size
  have hBt : isB (wtail a b size) := fun z hz => w16_isB a b ha hb z (List.mem_of_mem_drop hz)
  have hall := (show isB l by obtain ⟨_, _, _, _, _, h, _⟩ := hB; exact h).app hBt
  by_cases hs : cl size 16 = 0
  · refine (wput_0 v l a b size w hB hl hs).mono fun e w' ⟨r, he, ho, hb⟩ => ⟨r, he, ?_, hb⟩
    have e : wtail a b size = [] := List.eq_nil_of_length_eq_zero (by omega)
    rw [e, List.append_nil] at hall ⊢
    exact Bytes.ofOwn ho hall
  · obtain ⟨c0, c1, c2, c3, c4, c5, c6, c7, c8, c9, c10, c11, c12, c13, c14, c15, hc⟩ := w16_c a b
    have hB0 := hB
    obtain ⟨ao, cap, rfl, _⟩ := hB
    refine (wput_c c0 c1 c2 c3 c4 c5 c6 c7 c8 c9 c10 c11 c12 c13 c14 c15 ao cap l a b size (cl size 16) (16 - cl size 16) w hB0 hl (fun w => wspell_c _ _ _ _ _ _ _ _ _ _ _ _ _ _ _ _ a b hc w ha hb) (fun w => hold_16 size w) (by omega) (by omega)).mono fun e w' ⟨r, he, ho, hb⟩ => ⟨r, he, ?_, hb⟩
    rw [← hc, ← u8s_append] at ho
    refine Bytes.ofOwn (l := l ++ wtail a b size) (base := w.heap.size) (e := 5) ?_ hall
    rw [List.length_append, hlen]
    exact ho

end Go.Proofs.Ytmpfpolanndakab
