import Derived.Test.YtickphnfgaibiabProg
import Derived.Test.YtickphnfgaibiabR
import Derived.Test.YtickphnfgaibiabS
import Derived.Test.YtickphnfgaibiabU
import Derived.Test.YtickphnfgaibiabTa
import Derived.Test.YtickphnfgaibiabTb
import Derived.Test.YtickphnfgaibiabTc
import Derived.Test.YtickphnfgaibiabTg
import Derived.Below
import Derived.BigQuiet
import Derived.BigRegion
import Derived.ChangeAlike
import Derived.ChangeKeysEq
import Derived.ChangeSame
import Derived.DataElems
import Derived.Deep.MidRow
import Derived.Deep.QuietTactic
import Derived.Deep.RegionHeld
import Derived.Deep.RegionHeld3
import Derived.Deep.RegionLaw
import Derived.Deep.RegionLawGrows
import Derived.Deep.RegionWith
import Derived.Deep.WholeRow
import Derived.Great.BuildSlice
import Derived.Handy
import Derived.Laws.AppendOwn
import Derived.Laws.AppendOwnNone
import Derived.Laws.BitsAllLaws
import Derived.Laws.BitsLemmas
import Derived.Laws.CopyOwn
import Derived.Laws.OwnMore
import Derived.Laws.Rows
import Derived.Laws.StructEq
import Derived.Laws.Tables
import Derived.Lib.BitFns
import Derived.Lib.SmallJoins
import Derived.OpenShut
import Derived.ProofKit
import Derived.RegionTactic
import Derived.WalkKit
import Derived.WalkLawsBesides
import Derived.WalkSmall
import Derived.WalkSpells
import Derived.WideShapes
namespace Go.Proofs.Ytickphnfgaibiab
open Go Go.RowKit
set_option linter.unusedVariables false
set_option linter.unusedSimpArgs false

theorem bit_on (j x y : Nat) (hj : j < 128) (hx : x < 18446744073709551616) (hy : y < 18446744073709551616) : (andn (bh j) x == 0 && andn (bl j) y == 0) = hasb x y j := by
  rw [Bool.eq_iff_iff]
  simp only [Bool.and_eq_true, beq_iff_eq]
  rw [tb_sub x (bh j) hx (bh_lt j hj), tb_sub y (bl j) hy (bl_lt j)]
  unfold hasb bh bl
  by_cases h : j < 64
  · rw [if_pos h, if_pos h, if_pos h]
    constructor
    · rintro ⟨-, k⟩; exact k j (by simp [Nat.testBit_two_pow])
    · intro k
      refine ⟨fun i hi => by simp at hi, fun i hi => ?_⟩
      rw [Nat.testBit_two_pow] at hi
      have : j = i := by simpa using hi
      rw [← this]; exact k
  · rw [if_neg h, if_neg h, if_neg h]
    constructor
    · rintro ⟨k, -⟩; exact k (j - 64) (by simp [Nat.testBit_two_pow])
    · intro k
      refine ⟨fun i hi => ?_, fun i hi => by simp at hi⟩
      rw [Nat.testBit_two_pow] at hi
      have : j - 64 = i := by simpa using hi
      rw [← this]; exact k

def frest (a b c d x y j : Nat) : Bool := (a ^^^ x) &&& andn c (bh j) == 0 && (b ^^^ y) &&& andn d (bl j) == 0

theorem fix_on (a b c d x y j : Nat) (hj : j < 128) (ha : a < 18446744073709551616) (hb : b < 18446744073709551616) (hc : c < 18446744073709551616) (hd : d < 18446744073709551616) (hx : x < 18446744073709551616) (hy : y < 18446744073709551616) : thz (fixv (a &&& c) (bh j) true) (fixv (b &&& d) (bl j) true) (c ||| bh j) (d ||| bl j) x y = (hasb x y j && frest a b c d x y j) := by
  rw [← bit_on j x y hj hx hy]
  have h1 := tb_on a c (bh j) x ha hc (bh_lt j hj) hx
  have h2 := tb_on b d (bl j) y hb hd (bl_lt j) hy
  rw [andn_or _ _ (and_lt _ _ ha) (bh_lt j hj)] at h1
  rw [andn_or _ _ (and_lt _ _ hb) (bl_lt j)] at h2
  rw [Bool.eq_iff_iff]
  simp only [thz, fixv, frest, Bool.and_eq_true, beq_iff_eq, h1, h2]
  constructor
  · rintro ⟨⟨p, q⟩, r, s⟩; exact ⟨⟨p, r⟩, q, s⟩
  · rintro ⟨⟨p, r⟩, q, s⟩; exact ⟨⟨p, q⟩, r, s⟩

theorem fix_off (a b c d x y j : Nat) (hj : j < 128) (ha : a < 18446744073709551616) (hb : b < 18446744073709551616) (hc : c < 18446744073709551616) (hd : d < 18446744073709551616) (hx : x < 18446744073709551616) (hy : y < 18446744073709551616) : thz (fixv (a &&& c) (bh j) false) (fixv (b &&& d) (bl j) false) (c ||| bh j) (d ||| bl j) x y = (!hasb x y j && frest a b c d x y j) := by
  rw [← has_val x y j, Bool.not_not]
  have h1 := tb_off a c (bh j) x ha hc (bh_lt j hj) hx
  have h2 := tb_off b d (bl j) y hb hd (bl_lt j) hy
  rw [Bool.eq_iff_iff]
  simp only [thz, fixv, frest, Bool.and_eq_true, beq_iff_eq, h1, h2]
  constructor
  · rintro ⟨⟨p, q⟩, r, s⟩; exact ⟨⟨p, r⟩, q, s⟩
  · rintro ⟨⟨p, r⟩, q, s⟩; exact ⟨⟨p, q⟩, r, s⟩

theorem fix_free (a b c d x y j : Nat) (hj : j < 128) (ha : a < 18446744073709551616) (hb : b < 18446744073709551616) (hc : c < 18446744073709551616) (hd : d < 18446744073709551616) (hx : x < 18446744073709551616) (hy : y < 18446744073709551616) (h : hasb c d j = false) : frest a b c d x y j = thz a b c d x y := by
  rw [← has_val c d j] at h
  simp only [Bool.not_eq_false', Bool.and_eq_true, beq_iff_eq] at h
  unfold frest thz
  rw [tb_free c (bh j) hc (bh_lt j hj) h.1, tb_free d (bl j) hd (bl_lt j) h.2]

theorem fixv_lt (x h : Nat) (on : Bool) (hx : x < 18446744073709551616) (hh : h < 18446744073709551616) : fixv x h on < 18446744073709551616 := by
  cases on
  · exact tandn_lt _ _ hx
  · exact or_lt _ _ hx hh

theorem tfix_nat (a b c d j : Nat) (on : Bool) (w : World) (hj : j < 128) (ha : a < 18446744073709551616) (hb : b < 18446744073709551616) (hc : c < 18446744073709551616) (hd : d < 18446744073709551616) :
    Calls Try.prog 32 #[td a b c d, .int .i64 (j : Int), .bool on] w fun e w' => e = .returned (td (fixv (a &&& c) (bh j) on) (fixv (b &&& d) (bl j) on) (c ||| bh j) (d ||| bl j)) ∧ Below w.heap.size w w' := by
  have := tfix_any a b c d (j : Int) on w ha hb hc hd
  rwa [bhz_nat j hj, blz_nat j hj] at this

end Go.Proofs.Ytickphnfgaibiab
