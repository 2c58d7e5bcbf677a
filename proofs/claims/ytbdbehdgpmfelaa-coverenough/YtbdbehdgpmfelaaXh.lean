import Derived.Test.YtbdbehdgpmfelaaProg
import Derived.Test.YtbdbehdgpmfelaaXb
import Derived.Test.YtbdbehdgpmfelaaXf
import Derived.Below
import Derived.BigQuiet
import Derived.BigRegion
import Derived.ChangeAlike
import Derived.ChangeKeysEq
import Derived.ChangeSame
import Derived.DataElems
import Derived.Deep.MidRow
import Derived.Deep.QuietTactic
import Derived.Deep.RegionHeld
import Derived.Deep.RegionHeld3
import Derived.Deep.RegionLaw
import Derived.Deep.RegionLawGrows
import Derived.Deep.RegionWith
import Derived.Deep.WholeRow
import Derived.Great.BuildSlice
import Derived.Handy
import Derived.Laws.AppendOwn
import Derived.Laws.AppendOwnNone
import Derived.Laws.BitsAllLaws
import Derived.Laws.BitsLemmas
import Derived.Laws.CopyOwn
import Derived.Laws.OwnMore
import Derived.Laws.Rows
import Derived.Laws.StructEq
import Derived.Laws.Tables
import Derived.Lib.BitFns
import Derived.Lib.SmallJoins
import Derived.OpenShut
import Derived.ProofKit
import Derived.RegionTactic
import Derived.WalkKit
import Derived.WalkLawsBesides
import Derived.WalkSmall
import Derived.WalkSpells
import Derived.WideShapes
import Derived.Test.YtbdbehdgpmfelaaXg
import Derived.Test.YtbdbehdgpmfelaaXc
namespace Go.Proofs.Ytbdbehdgpmfelaa
section
open Go Go.RowKit
set_option linter.unusedVariables false
set_option linter.unusedSimpArgs false

/-- a half of a meet, where there is one -/
def mz (ok : Bool) (r : Nat) : Nat := match ok with | true => r | false => 0

theorem mz_lt (ok : Bool) (r : Nat) (h : r < 18446744073709551616) : mz ok r < 18446744073709551616 := by cases ok <;> simp [mz] <;> omega

def mok (a b c d a2 b2 c2 d2 : Nat) : Bool := ((a ^^^ a2) &&& (c &&& c2) == 0 && (b ^^^ b2) &&& (d &&& d2) == 0)

theorem tmeet_ok (a b c d a2 b2 c2 d2 : Nat) (w : World) (ha : a < 18446744073709551616) (hb : b < 18446744073709551616) (hc : c < 18446744073709551616) (hd : d < 18446744073709551616) (ha2 : a2 < 18446744073709551616) (hb2 : b2 < 18446744073709551616) (hc2 : c2 < 18446744073709551616) (hd2 : d2 < 18446744073709551616) :
    Calls Try.prog 40 #[td a b c d, td a2 b2 c2 d2] w fun e w' => e = .returned (.tuple #[td (mz (mok a b c d a2 b2 c2 d2) (a &&& c ||| a2 &&& c2)) (mz (mok a b c d a2 b2 c2 d2) (b &&& d ||| b2 &&& d2)) (mz (mok a b c d a2 b2 c2 d2) (c ||| c2)) (mz (mok a b c d a2 b2 c2 d2) (d ||| d2)), .bool (mok a b c d a2 b2 c2 d2)]) ∧ Below w.heap.size w w' := by
  refine (tmeet_any a b c d a2 b2 c2 d2 w ha hb hc hd ha2 hb2 hc2 hd2).mono fun e w' ⟨h, k⟩ => ⟨?_, k⟩
  rw [h]
  by_cases e : (a ^^^ a2) &&& (c &&& c2) = 0 ∧ (b ^^^ b2) &&& (d &&& d2) = 0
  · rw [if_pos e]
    have : mok a b c d a2 b2 c2 d2 = true := by unfold mok; simpa using e
    rw [this]; rfl
  · rw [if_neg e]
    have : mok a b c d a2 b2 c2 d2 = false := by unfold mok; simpa using e
    rw [this]; rfl

theorem rtmeet_ok (a b c d a2 b2 c2 d2 : Nat) (w : World) (ha : a < 18446744073709551616) (hb : b < 18446744073709551616) (hc : c < 18446744073709551616) (hd : d < 18446744073709551616) (ha2 : a2 < 18446744073709551616) (hb2 : b2 < 18446744073709551616) (hc2 : c2 < 18446744073709551616) (hd2 : d2 < 18446744073709551616) :
    Calls Try.prog 41 #[td a b c d, td a2 b2 c2 d2] w fun e w' => e = .returned (.tuple #[td (mz (mok a b c d a2 b2 c2 d2) (a &&& c ||| a2 &&& c2)) (mz (mok a b c d a2 b2 c2 d2) (b &&& d ||| b2 &&& d2)) (mz (mok a b c d a2 b2 c2 d2) (c ||| c2)) (mz (mok a b c d a2 b2 c2 d2) (d ||| d2)), .bool (mok a b c d a2 b2 c2 d2)]) ∧ Below w.heap.size w w' := by
  refine (rtmeet_any a b c d a2 b2 c2 d2 w ha hb hc hd ha2 hb2 hc2 hd2).mono fun e w' ⟨h, k⟩ => ⟨?_, k⟩
  rw [h]
  by_cases e : (a ^^^ a2) &&& (c &&& c2) = 0 ∧ (b ^^^ b2) &&& (d &&& d2) = 0
  · rw [if_pos e]
    have : mok a b c d a2 b2 c2 d2 = true := by unfold mok; simpa using e
    rw [this]; rfl
  · rw [if_neg e]
    have : mok a b c d a2 b2 c2 d2 = false := by unfold mok; simpa using e
    rw [this]; rfl

/-- what a tern has -/
def thz (a b c d x y : Nat) : Bool := (a ^^^ x) &&& c == 0 && (b ^^^ y) &&& d == 0

theorem meet_rel (a b c d a2 b2 c2 d2 x y : Nat) : (thz a b c d x y && thz a2 b2 c2 d2 x y) = (mok a b c d a2 b2 c2 d2 && thz (mz (mok a b c d a2 b2 c2 d2) (a &&& c ||| a2 &&& c2)) (mz (mok a b c d a2 b2 c2 d2) (b &&& d ||| b2 &&& d2)) (mz (mok a b c d a2 b2 c2 d2) (c ||| c2)) (mz (mok a b c d a2 b2 c2 d2) (d ||| d2)) x y) := by
  have h1 := tb_meet a c a2 c2 x
  have h2 := tb_meet b d b2 d2 y
  cases hm : mok a b c d a2 b2 c2 d2
  · rw [Bool.false_and]
    rw [Bool.eq_false_iff]
    intro h
    simp only [thz, Bool.and_eq_true, beq_iff_eq] at h
    have k1 := (h1.1 ⟨h.1.1, h.2.1⟩).1
    have k2 := (h2.1 ⟨h.1.2, h.2.2⟩).1
    unfold mok at hm
    rw [k1, k2] at hm
    cases hm
  · rw [Bool.true_and, Bool.eq_iff_iff]
    unfold mok at hm
    simp only [Bool.and_eq_true, beq_iff_eq] at hm
    simp only [thz, mz, Bool.and_eq_true, beq_iff_eq]
    constructor
    · rintro ⟨⟨p1, p2⟩, q1, q2⟩
      exact ⟨(h1.1 ⟨p1, q1⟩).2, (h2.1 ⟨p2, q2⟩).2⟩
    · rintro ⟨r1, r2⟩
      obtain ⟨p1, q1⟩ := h1.2 ⟨hm.1, r1⟩
      obtain ⟨p2, q2⟩ := h2.2 ⟨hm.2, r2⟩
      exact ⟨⟨p1, p2⟩, q1, q2⟩

theorem thas_z (a b c d x y : Nat) (w : World) (ha : a < 18446744073709551616) (hb : b < 18446744073709551616) (hc : c < 18446744073709551616) (hd : d < 18446744073709551616) (hx : x < 18446744073709551616) (hy : y < 18446744073709551616) :
    Calls Try.prog 29 #[td a b c d, wd x y] w fun e w' => e = .returned (.bool (thz a b c d x y)) ∧ Below w.heap.size w w' := thas_any a b c d x y w ha hb hc hd hx hy
end

section
open Go Go.RowKit
set_option linter.unusedVariables false
set_option linter.unusedSimpArgs false

theorem bit_on (j x y : Nat) (hj : j < 128) (hx : x < 18446744073709551616) (hy : y < 18446744073709551616) : (andn (bh j) x == 0 && andn (bl j) y == 0) = hasb x y j := by
  rw [Bool.eq_iff_iff]
  simp only [Bool.and_eq_true, beq_iff_eq]
  rw [tb_sub x (bh j) hx (bh_lt j hj), tb_sub y (bl j) hy (bl_lt j)]
  unfold hasb bh bl
  by_cases h : j < 64
  · rw [if_pos h, if_pos h, if_pos h]
    constructor
    · rintro ⟨-, k⟩; exact k j (by simp [Nat.testBit_two_pow])
    · intro k
      refine ⟨fun i hi => by simp at hi, fun i hi => ?_⟩
      rw [Nat.testBit_two_pow] at hi
      have : j = i := by simpa using hi
      rw [← this]; exact k
  · rw [if_neg h, if_neg h, if_neg h]
    constructor
    · rintro ⟨k, -⟩; exact k (j - 64) (by simp [Nat.testBit_two_pow])
    · intro k
      refine ⟨fun i hi => ?_, fun i hi => by simp at hi⟩
      rw [Nat.testBit_two_pow] at hi
      have : j - 64 = i := by simpa using hi
      rw [← this]; exact k

def frest (a b c d x y j : Nat) : Bool := (a ^^^ x) &&& andn c (bh j) == 0 && (b ^^^ y) &&& andn d (bl j) == 0

theorem fix_on (a b c d x y j : Nat) (hj : j < 128) (ha : a < 18446744073709551616) (hb : b < 18446744073709551616) (hc : c < 18446744073709551616) (hd : d < 18446744073709551616) (hx : x < 18446744073709551616) (hy : y < 18446744073709551616) : thz (fixv (a &&& c) (bh j) true) (fixv (b &&& d) (bl j) true) (c ||| bh j) (d ||| bl j) x y = (hasb x y j && frest a b c d x y j) := by
  rw [← bit_on j x y hj hx hy]
  have h1 := tb_on a c (bh j) x ha hc (bh_lt j hj) hx
  have h2 := tb_on b d (bl j) y hb hd (bl_lt j) hy
  rw [andn_or _ _ (and_lt _ _ ha) (bh_lt j hj)] at h1
  rw [andn_or _ _ (and_lt _ _ hb) (bl_lt j)] at h2
  rw [Bool.eq_iff_iff]
  simp only [thz, fixv, frest, Bool.and_eq_true, beq_iff_eq, h1, h2]
  constructor
  · rintro ⟨⟨p, q⟩, r, s⟩; exact ⟨⟨p, r⟩, q, s⟩
  · rintro ⟨⟨p, r⟩, q, s⟩; exact ⟨⟨p, q⟩, r, s⟩

theorem fix_off (a b c d x y j : Nat) (hj : j < 128) (ha : a < 18446744073709551616) (hb : b < 18446744073709551616) (hc : c < 18446744073709551616) (hd : d < 18446744073709551616) (hx : x < 18446744073709551616) (hy : y < 18446744073709551616) : thz (fixv (a &&& c) (bh j) false) (fixv (b &&& d) (bl j) false) (c ||| bh j) (d ||| bl j) x y = (!hasb x y j && frest a b c d x y j) := by
  rw [← has_val x y j, Bool.not_not]
  have h1 := tb_off a c (bh j) x ha hc (bh_lt j hj) hx
  have h2 := tb_off b d (bl j) y hb hd (bl_lt j) hy
  rw [Bool.eq_iff_iff]
  simp only [thz, fixv, frest, Bool.and_eq_true, beq_iff_eq, h1, h2]
  constructor
  · rintro ⟨⟨p, q⟩, r, s⟩; exact ⟨⟨p, r⟩, q, s⟩
  · rintro ⟨⟨p, r⟩, q, s⟩; exact ⟨⟨p, q⟩, r, s⟩

theorem fix_free (a b c d x y j : Nat) (hj : j < 128) (ha : a < 18446744073709551616) (hb : b < 18446744073709551616) (hc : c < 18446744073709551616) (hd : d < 18446744073709551616) (hx : x < 18446744073709551616) (hy : y < 18446744073709551616) (h : hasb c d j = false) : frest a b c d x y j = thz a b c d x y := by
  rw [← has_val c d j] at h
  simp only [Bool.not_eq_false', Bool.and_eq_true, beq_iff_eq] at h
  unfold frest thz
  rw [tb_free c (bh j) hc (bh_lt j hj) h.1, tb_free d (bl j) hd (bl_lt j) h.2]

theorem fixv_lt (x h : Nat) (on : Bool) (hx : x < 18446744073709551616) (hh : h < 18446744073709551616) : fixv x h on < 18446744073709551616 := by
  cases on
  · exact tandn_lt _ _ hx
  · exact or_lt _ _ hx hh

theorem tfix_nat (a b c d j : Nat) (on : Bool) (w : World) (hj : j < 128) (ha : a < 18446744073709551616) (hb : b < 18446744073709551616) (hc : c < 18446744073709551616) (hd : d < 18446744073709551616) :
    Calls Try.prog 53 #[td a b c d, .int .i64 (j : Int), .bool on] w fun e w' => e = .returned (td (fixv (a &&& c) (bh j) on) (fixv (b &&& d) (bl j) on) (c ||| bh j) (d ||| bl j)) ∧ Below w.heap.size w w' := by
  have := tfix_any a b c d (j : Int) on w ha hb hc hd
  rwa [bhz_nat j hj, blz_nat j hj] at this
end

section
open Go Go.RowKit
set_option linter.unusedVariables false
set_option linter.unusedSimpArgs false

def twz (a b c d a2 b2 c2 d2 : Nat) : Bool := (andn c2 c == 0 && andn d2 d == 0) && ((a ^^^ a2) &&& c2 == 0 && (b ^^^ b2) &&& d2 == 0)

theorem within_sub (a b c d a2 b2 c2 d2 x y : Nat) (hc : c < 18446744073709551616) (hd : d < 18446744073709551616) (hc2 : c2 < 18446744073709551616) (hd2 : d2 < 18446744073709551616) (h : twz a b c d a2 b2 c2 d2 = true) (k : thz a b c d x y = true) : thz a2 b2 c2 d2 x y = true := by
  simp only [twz, thz, Bool.and_eq_true, beq_iff_eq] at h k ⊢
  obtain ⟨⟨h1, h2⟩, h3, h4⟩ := h
  exact ⟨tb_within a c a2 c2 x hc hc2 h1 h3 k.1, tb_within b d b2 d2 y hd hd2 h2 h4 k.2⟩

theorem twithin_z (a b c d a2 b2 c2 d2 : Nat) (w : World) (ha : a < 18446744073709551616) (hb : b < 18446744073709551616) (hc : c < 18446744073709551616) (hd : d < 18446744073709551616) (ha2 : a2 < 18446744073709551616) (hb2 : b2 < 18446744073709551616) (hc2 : c2 < 18446744073709551616) (hd2 : d2 < 18446744073709551616) :
    Calls Try.prog 67 #[td a b c d, td a2 b2 c2 d2] w fun e w' => e = .returned (.bool (twz a b c d a2 b2 c2 d2)) ∧ Below w.heap.size w w' := twithin_any a b c d a2 b2 c2 d2 w ha hb hc hd ha2 hb2 hc2 hd2
end

section
open Go Go.RowKit
set_option linter.unusedVariables false
set_option linter.unusedSimpArgs false

theorem rtwithin_z (a b c d a2 b2 c2 d2 : Nat) (w : World) (ha : a < 18446744073709551616) (hb : b < 18446744073709551616) (hc : c < 18446744073709551616) (hd : d < 18446744073709551616) (ha2 : a2 < 18446744073709551616) (hb2 : b2 < 18446744073709551616) (hc2 : c2 < 18446744073709551616) (hd2 : d2 < 18446744073709551616) :
    Calls Try.prog 54 #[td a b c d, td a2 b2 c2 d2] w fun e w' => e = .returned (.bool (twz a b c d a2 b2 c2 d2)) ∧ Below w.heap.size w w' := rtwithin_any a b c d a2 b2 c2 d2 w ha hb hc hd ha2 hb2 hc2 hd2
end

section
open Go Go.RowKit
set_option linter.unusedVariables false
set_option linter.unusedSimpArgs false
open Go Go.RowKit Go.ChangeShapes Go.WideShapes

theorem quad_of {H : Type} {enc : TypeId × Value → H} {W : World} {base : Nat} {spare : Nat → Bool} {held : Bool} {fuel : Nat} {cs : List Value} {x : DataW H × List MemPlace} (h : DataW.trod enc Try.prog W base spare held fuel 26 cs = some x) :
    ∃ a b c d : Nat, cs = [.int .u64 (a : Int), .int .u64 (b : Int), .int .u64 (c : Int), .int .u64 (d : Int)] ∧ a < 18446744073709551616 ∧ b < 18446744073709551616 ∧ c < 18446744073709551616 ∧ d < 18446744073709551616 := by
  have h26 : Try.prog.cellsOf 26 = 4 := by kernel_rfl
  have h24 : Try.prog.cellsOf 24 = 2 := by kernel_rfl
  have h22 : Try.prog.cellsOf 22 = 1 := by kernel_rfl
  obtain ⟨y0, y1, n, _, hl, e0, e1⟩ := trod_struct2 Try.underlying26 h
  obtain ⟨z0, z1, n0, _, _, a0, a1⟩ := trod_struct2 Try.underlying24 e0
  obtain ⟨z2, z3, n1, _, _, a2, a3⟩ := trod_struct2 Try.underlying24 e1
  obtain ⟨a, ea, _, wa⟩ := DataW.trod_int Try.underlying22 a0
  obtain ⟨b, eb, _, wb⟩ := DataW.trod_int Try.underlying22 a1
  obtain ⟨c, ec, _, wc⟩ := DataW.trod_int Try.underlying22 a2
  obtain ⟨d, ed, _, wd⟩ := DataW.trod_int Try.underlying22 a3
  obtain ⟨A, rfl, gA⟩ := u64_nat wa
  obtain ⟨B, rfl, gB⟩ := u64_nat wb
  obtain ⟨C, rfl, gC⟩ := u64_nat wc
  obtain ⟨D, rfl, gD⟩ := u64_nat wd
  refine ⟨A, B, C, D, ?_, gA, gB, gC, gD⟩
  rw [h26] at hl
  match cs, hl with
  | [c0, c1, c2, c3], _ =>
    simp [h24, h22] at ea eb ec ed
    rw [ea, eb, ec, ed]
end

end Go.Proofs.Ytbdbehdgpmfelaa
