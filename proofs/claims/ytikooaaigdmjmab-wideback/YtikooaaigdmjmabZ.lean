import Derived.Test.YtikooaaigdmjmabProg
import Derived.Test.YtikooaaigdmjmabK
import Derived.Test.YtikooaaigdmjmabP
import Derived.Test.YtikooaaigdmjmabG
import Derived.Test.YtikooaaigdmjmabH
import Derived.Test.YtikooaaigdmjmabI
import Derived.Test.YtikooaaigdmjmabR
import Derived.Test.YtikooaaigdmjmabS
import Derived.Test.YtikooaaigdmjmabT
import Derived.Test.YtikooaaigdmjmabU
import Derived.Test.YtikooaaigdmjmabV
import Derived.Test.YtikooaaigdmjmabW
import Derived.Test.YtikooaaigdmjmabX
import Derived.Test.YtikooaaigdmjmabY
import Derived.Below
import Derived.BigQuiet
import Derived.Deep.QuietTactic
import Derived.Deep.RegionHeld3
import Derived.Deep.RegionLaw
import Derived.Deep.RegionLawGrows
import Derived.Handy
import Derived.Laws.AppendOwn
import Derived.Laws.AppendOwnNone
import Derived.Laws.BitsAllLaws
import Derived.Laws.BitsLemmas
import Derived.Laws.CopyOwn
import Derived.Laws.OwnMore
import Derived.Laws.StructEq
import Derived.OpenShut
import Derived.ProofKit
import Derived.RegionTactic
import Derived.WalkKit
import Derived.WalkLawsBesides
import Derived.WalkSmall
import Derived.WalkSpells
namespace Go.Proofs.Ytikooaaigdmjmab
open Go Go.RowKit
set_option linter.unusedVariables false
set_option linter.unusedSimpArgs false

set_option maxHeartbeats 400000 in
theorem wput_0 (v : Value) (l : List Int) (a b : Nat) (size : Int) (w : World) (hB : Bytes w v l) (hl : l.length ≤ 100000000000000) (hs : cl size 16 = 0) :
    Calls Try.prog 7 #[v, .agg #[.int .u64 (a : Int), .int .u64 (b : Int)], .int .i64 size] w fun e w' => ∃ r, e = .returned r ∧ w'.ownsRow w.heap.size 5 1 r l.length (u8s l) ∧ Below w.heap.size w w' := by
  have HB : Hid (Bytes w v l) := hB
  have HH : Hid (∀ w, Calls Try.prog 18 #[.int .i64 size, .int .i64 16] w fun e w' => e = .returned (.int .i64 0) ∧ w = w') := fun w => by
    have := hold_16 size w
    rwa [hs] at this
  clear hB hs
  go_enter Try.func7, Try.ntmps7
  go_wp2_with (first | (go_at_call 18; refine (HH.out _).mono ?_; rintro e w' ⟨rfl, rfl⟩) | (go_at_call 19; refine (bclone_any v l _ (HB.out.later (by go_grown)) hl).mono ?_; rintro e w' ⟨r, rfl, hown, hbel⟩))
  go_ret
  exact ⟨r, rfl, ownsRow_base hown (by simp), (by go_grown : Below w.heap.size w (w.alloc (.cells #[.int .u64 (a : Int), .int .u64 (b : Int)] 25))).trans (hbel.mono (by simp))⟩

/-- what is put behind -/
def wtail (a b : Nat) (size : Int) : List Int := (w16 a b).drop (16 - cl size 16)

theorem wtail_length (a b : Nat) (size : Int) : (wtail a b size).length = cl size 16 := by
  have := cl_le size 16
  unfold wtail; rw [List.length_drop, w16_length]; omega

theorem wput_any (v : Value) (l : List Int) (a b : Nat) (size : Int) (w : World) (hB : Bytes w v l) (hl : l.length ≤ 100000000000000) (ha : a < 18446744073709551616) (hb : b < 18446744073709551616) :
    Calls Try.prog 7 #[v, wd a b, .int .i64 size] w fun e w' => ∃ r, e = .returned r ∧ Bytes w' r (l ++ wtail a b size) ∧ Below w.heap.size w w' := by
  have hcl := cl_le size 16
  have hlen := wtail_length a b size
  have hBt : isB (wtail a b size) := fun z hz => w16_isB a b ha hb z (List.mem_of_mem_drop hz)
  have hall := (show isB l by obtain ⟨_, _, _, _, _, h, _⟩ := hB; exact h).app hBt
  by_cases hs : cl size 16 = 0
  · refine (wput_0 v l a b size w hB hl hs).mono fun e w' ⟨r, he, ho, hb⟩ => ⟨r, he, ?_, hb⟩
    have e : wtail a b size = [] := List.eq_nil_of_length_eq_zero (by omega)
    rw [e, List.append_nil] at hall ⊢
    exact Bytes.ofOwn ho hall
  · obtain ⟨c0, c1, c2, c3, c4, c5, c6, c7, c8, c9, c10, c11, c12, c13, c14, c15, hc⟩ := w16_c a b
    have hB0 := hB
    obtain ⟨ao, cap, rfl, _⟩ := hB
    refine (wput_c c0 c1 c2 c3 c4 c5 c6 c7 c8 c9 c10 c11 c12 c13 c14 c15 ao cap l a b size (cl size 16) (16 - cl size 16) w hB0 hl (fun w => wspell_c _ _ _ _ _ _ _ _ _ _ _ _ _ _ _ _ a b hc w ha hb) (fun w => hold_16 size w) (by omega) (by omega)).mono fun e w' ⟨r, he, ho, hb⟩ => ⟨r, he, ?_, hb⟩
    rw [← hc, ← u8s_append] at ho
    refine Bytes.ofOwn (l := l ++ wtail a b size) (base := w.heap.size) (e := 5) ?_ hall
    rw [List.length_append, hlen]
    exact ho

theorem low_4 (w : World) : Calls Try.prog 13 #[.int .i64 4] w fun e w' => e = .returned (.agg #[.int .u64 0, .int .u64 15]) ∧ Below w.heap.size w w' := low_any 4 w

theorem bit_64 (w : World) : Calls Try.prog 14 #[.int .i64 64] w fun e w' => e = .returned (.agg #[.int .u64 1, .int .u64 0]) ∧ Below w.heap.size w w' := bit_any 64 w

theorem all_128 : ∃ m : Nat, (∀ w, Calls Try.prog 13 #[.int .i64 128] w fun e w' => e = .returned (.agg #[.int .u64 (m : Int), .int .u64 (m : Int)]) ∧ Below w.heap.size w w') ∧
    ∀ w, Calls Try.prog 15 #[.agg #[.int .u64 (m : Int), .int .u64 (m : Int)]] w fun e w' => e = .returned (.int .i64 128) ∧ Below w.heap.size w w' := by
  refine ⟨lowb 64, fun w => low_any 128 w, fun w => ?_⟩
  have := many_any (lowb 64) (lowb 64) w (lowb_lt 64 (by omega)) (lowb_lt 64 (by omega))
  rw [← pc_64 _ (lowb_lt 64 (by omega)), show pcr 64 (lowb 64) + pcr 64 (lowb 64) = 128 by decide +kernel] at this
  exact this

theorem zero_0 (w : World) : Calls Try.prog 16 #[.agg #[.int .u64 0, .int .u64 0]] w fun e w' => e = .returned (.bool true) ∧ Below w.heap.size w w' := zero_any 0 0 w

theorem has_65 (w : World) : Calls Try.prog 17 #[.agg #[.int .u64 2, .int .u64 0], .int .i64 65] w fun e w' => e = .returned (.bool true) ∧ Below w.heap.size w w' := has_any 2 0 65 w (by decide) (by decide)

theorem wput_258 (w : World) : Calls Try.prog 7 #[.slice none 0 0, .agg #[.int .u64 0, .int .u64 258], .int .i64 2] w fun e w' => ∃ r, e = .returned r ∧ Bytes w' r [1, 2] ∧ Below w.heap.size w w' :=
  wput_any (.slice none 0 0) [] 0 258 2 w (Bytes.nil w) (by decide) (by decide) (by decide)

set_option maxRecDepth 100000 in
set_option maxHeartbeats 1000000 in
theorem awake2_any (w : World) :
    Calls Try.prog 5 #[] w fun e w' => e = .returned (.bool true) ∧ Below w.heap.size w w' := by
  obtain ⟨m, h1, h2⟩ := all_128
  have H1 := hide_ h1
  have H2 := hide_ h2
  clear h1 h2
  go_enter Try.func5, Try.ntmps5
  go_wp2_with fail
  refine (low_4 _).mono ?_
  rintro e w1 ⟨rfl, b1⟩
  go_wp2_with fail
  refine (bit_64 _).mono ?_
  rintro e w2 ⟨rfl, b2⟩
  go_wp2_with fail
  refine (H1.out _).mono ?_
  rintro e w3 ⟨rfl, b3⟩
  go_wp2_with fail
  refine (H2.out _).mono ?_
  rintro e w4 ⟨rfl, b4⟩
  go_wp2_with fail
  refine (zero_0 _).mono ?_
  rintro e w5 ⟨rfl, b5⟩
  go_wp2_with fail
  refine (has_65 _).mono ?_
  rintro e w6 ⟨rfl, b6⟩
  go_wp2_with fail
  refine (wput_258 _).mono ?_
  rintro e w7 ⟨r, rfl, hr, b7⟩
  have HR := hide_ hr
  clear hr
  go_wp2_with fail
  refine (equal_any r _ [1, 2] [1, 2] _ (HR.out.later (by go_grown)) (Bytes.lit w7 [1, 2] 5 (by intro z hz; simp at hz; omega) (by decide))).mono ?_
  rintro e w8 ⟨rfl, b8⟩
  have e0 : (([1, 2] : List Int) == [1, 2]) = true := rfl
  go_wp2
  go_ret
  refine ⟨rfl, ?_⟩
  have b := b1.trans (b2.mono b1.size)
  have b := b.trans (b3.mono b.size)
  have b := b.trans (b4.mono b.size)
  have b := b.trans (b5.mono b.size)
  have b := b.trans (b6.mono b.size)
  have b := b.trans (b7.mono b.size)
  have s7 := b.size
  have b := b.trans (by go_grown : Below w.heap.size w7 (w7.alloc (.cells (u8s [1, 2]).toArray 5)))
  exact b.trans (b8.mono (by simp; omega))

end Go.Proofs.Ytikooaaigdmjmab
