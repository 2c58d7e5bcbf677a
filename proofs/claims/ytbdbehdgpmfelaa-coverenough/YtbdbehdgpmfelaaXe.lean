import Derived.Test.YtbdbehdgpmfelaaXd
import Derived.Below
import Derived.BigQuiet
import Derived.BigRegion
import Derived.ChangeAlike
import Derived.ChangeKeysEq
import Derived.ChangeSame
import Derived.DataElems
import Derived.Deep.MidRow
import Derived.Deep.QuietTactic
import Derived.Deep.RegionHeld
import Derived.Deep.RegionHeld3
import Derived.Deep.RegionLaw
import Derived.Deep.RegionLawGrows
import Derived.Deep.RegionWith
import Derived.Deep.WholeRow
import Derived.Great.BuildSlice
import Derived.Handy
import Derived.Laws.AppendOwn
import Derived.Laws.AppendOwnNone
import Derived.Laws.BitsAllLaws
import Derived.Laws.BitsLemmas
import Derived.Laws.CopyOwn
import Derived.Laws.OwnMore
import Derived.Laws.Rows
import Derived.Laws.StructEq
import Derived.Laws.Tables
import Derived.Lib.BitFns
import Derived.Lib.SmallJoins
import Derived.OpenShut
import Derived.ProofKit
import Derived.RegionTactic
import Derived.WalkKit
import Derived.WalkLawsBesides
import Derived.WalkSmall
import Derived.WalkSpells
import Derived.WideShapes
import Derived.Test.YtbdbehdgpmfelaaProg
import Derived.Test.YtbdbehdgpmfelaaXc
namespace Go.Proofs.Ytbdbehdgpmfelaa
section
open Go Go.RowKit
set_option linter.unusedVariables false
set_option linter.unusedSimpArgs false

def h5 : List (Nat × Nat) := z24.set 5 (0, 8197)
end

section
open Go Go.RowKit
set_option linter.unusedVariables false
set_option linter.unusedSimpArgs false
open Go Go.RowKit Go.ChangeShapes Go.WideShapes

theorem pairs_list : ∀ (n : Nat) (cs : List Value), cs.length = n * 2 → (∀ i, i < n → ∃ a b : Nat, (cs.drop (i * 2)).take 2 = [.int .u64 (a : Int), .int .u64 (b : Int)] ∧ a < 18446744073709551616 ∧ b < 18446744073709551616) →
    ∃ l : List (Nat × Nat), l.length = n ∧ cs = wdc l ∧ ∀ p ∈ l, p.1 < 18446744073709551616 ∧ p.2 < 18446744073709551616
  | 0, cs, hl, _ => by
    have : cs = [] := List.eq_nil_of_length_eq_zero (by omega)
    subst this
    exact ⟨[], rfl, rfl, fun p hp => by cases hp⟩
  | n + 1, cs, hl, h => by
    match cs, hl with
    | [], hl => simp at hl
    | [c], hl => simp at hl; omega
    | c0 :: c1 :: r, hl =>
      obtain ⟨a, b, e, ha, hb⟩ := h 0 (by omega)
      simp at e
      obtain ⟨rfl, rfl⟩ := e
      obtain ⟨l, h1, h2, h3⟩ := pairs_list n r (by simp at hl; omega) (fun i hi => by
        have := h (i + 1) (by omega)
        rw [show (i + 1) * 2 = i * 2 + 1 + 1 by omega] at this
        simpa using this)
      subst h2
      refine ⟨(a, b) :: l, by simp [h1], rfl, fun p hp => ?_⟩
      rcases List.mem_cons.1 hp with rfl | hp
      · exact ⟨ha, hb⟩
      · exact h3 p hp

theorem okWide_arr {P : Program} {w : World} {r : Reach} {base : Nat} {t : TypeId} {v : Value} {n : Nat} {e : TypeId} (ht : P.underlying t = some (.array n e)) (h : Value.okWide P w r base t v) : ∃ cs, v = .agg cs ∧ cs.size = P.cellsOf t := by
  simp only [Value.okWide, ht] at h
  obtain ⟨cs, h1, h2, _⟩ := h
  exact ⟨cs, h1, h2⟩

theorem open_hdr {H : Type} {enc : TypeId × Value → H} {W : World} {r : Reach} {b0 base : Nat} {spare : Nat → Bool} {held : Bool} {v : Value} {d : DataW H} {p : List MemPlace}
    (hv' : Value.okWide Try.prog W r b0 33 v) (h : DataW.Trod enc Try.prog W base spare held 33 v d p) : ∃ l, v = hv l ∧ isH l := by
  obtain ⟨cs, rfl, hsz⟩ := okWide_arr Try.underlying33 hv'
  have h42 : Try.prog.cellsOf 33 = 48 := by kernel_rfl
  have h39 : Try.prog.cellsOf 24 = 2 := by kernel_rfl
  obtain ⟨fuel, hf⟩ := h
  obtain ⟨xs, m, _, _, hl, hxl, hx⟩ := DataW.trod_array Try.underlying33 hf
  obtain ⟨l, h1, h2, h3⟩ := pairs_list 24 cs.toList (by simp [hsz, h42]) (fun i hi => by
    have e := hx i hi
    rw [h39, List.getElem?_eq_getElem (by omega)] at e
    obtain ⟨y0, y1, n, _, hl2, e0, e1⟩ := trod_struct2 Try.underlying24 e
    obtain ⟨a, ea, _, wa⟩ := DataW.trod_int Try.underlying22 e0
    obtain ⟨b, eb, _, wb⟩ := DataW.trod_int Try.underlying22 e1
    obtain ⟨A, rfl, gA⟩ := u64_nat wa
    obtain ⟨B, rfl, gB⟩ := u64_nat wb
    refine ⟨A, B, ?_, gA, gB⟩
    rw [h39] at hl2
    have h37 : Try.prog.cellsOf 22 = 1 := by kernel_rfl
    generalize hq : List.take 2 (List.drop (i * 2) (Value.agg cs).cells.toList) = q at *
    have hq' : List.take 2 (List.drop (i * 2) cs.toList) = q := hq
    rw [hq']
    match q, hl2 with
    | [c0, c1], _ =>
      simp [h37] at ea eb
      rw [ea, eb])
  refine ⟨l, ?_, h1, h3⟩
  unfold hv
  rw [← h2]
end

section
open Go Go.RowKit
set_option linter.unusedVariables false
set_option linter.unusedSimpArgs false

/-- where a field's bytes begin -/
def offk : Nat → Nat
  | 0 => 0
  | k + 1 => offk k + fsize (k : Int)

/-- a field out of bytes -/
def pj (b : List Int) (j : Nat) : Nat × Nat := (gx (b.drop (offk j)) (fsize (j : Int) : Nat), gy (b.drop (offk j)) (fsize (j : Int) : Nat))

def PK (b : List Int) (k : Nat) : List (Nat × Nat) := (List.range 24).map fun j => if j < k then pj b j else (0, 0)

def pok (b : List Int) : Bool := decide (b.length = 95) && decide (clip (PK b 24) = PK b 24)

def pe (b : List Int) : Int := if pok b then 0 else 4
end

section
open Go Go.RowKit
set_option linter.unusedVariables false
set_option linter.unusedSimpArgs false

theorem HB.alloc {w : World} {g : Nat} {l : List (Nat × Nat)} (h : HB w g l) (o : Obj) : HB (w.alloc o) g l := h.later ((Below.refl _ _).alloc (Nat.le_refl _) _)
end

section
open Go Go.RowKit
set_option linter.unusedVariables false
set_option linter.unusedSimpArgs false

theorem HB.setRow {w : World} {g : Nat} {l l' : List (Nat × Nat)} (h : HB w g l) : HB (w.setRow g (wdc l').toArray) g l' := setRow_heap w g _ _ 33 _ h
end

end Go.Proofs.Ytbdbehdgpmfelaa
