import Derived.Test.YtmpfpolanndakabProg
import Derived.Test.YtmpfpolanndakabK
import Derived.Test.YtmpfpolanndakabG
import Derived.Test.YtmpfpolanndakabT
import Derived.Test.YtmpfpolanndakabW
import Derived.Test.YtmpfpolanndakabZ
import Derived.Test.YtmpfpolanndakabFc
import Derived.Test.YtmpfpolanndakabFe
import Derived.Test.YtmpfpolanndakabFf
import Derived.Test.YtmpfpolanndakabHa
import Derived.Below
import Derived.BigQuiet
import Derived.BigRegion
import Derived.ChangeAlike
import Derived.ChangeKeysEq
import Derived.ChangeSame
import Derived.DataElems
import Derived.Deep.MidRow
import Derived.Deep.QuietTactic
import Derived.Deep.RegionHeld
import Derived.Deep.RegionHeld3
import Derived.Deep.RegionLaw
import Derived.Deep.RegionLawGrows
import Derived.Deep.RegionWith
import Derived.Deep.WholeRow
import Derived.Great.BuildSlice
import Derived.Handy
import Derived.Laws.AppendOwn
import Derived.Laws.AppendOwnNone
import Derived.Laws.BitsAllLaws
import Derived.Laws.BitsLemmas
import Derived.Laws.CopyOwn
import Derived.Laws.OwnMore
import Derived.Laws.Rows
import Derived.Laws.StructEq
import Derived.Lib.SmallJoins
import Derived.OpenShut
import Derived.ProofKit
import Derived.RegionTactic
import Derived.WalkKit
import Derived.WalkLawsBesides
import Derived.WalkSmall
import Derived.WalkSpells
import Derived.WideShapes
namespace Go.Proofs.Ytmpfpolanndakab
open Go Go.RowKit
set_option linter.unusedVariables false
set_option linter.unusedSimpArgs false

/-- a field's bytes -/
def fby (l : List (Nat × Nat)) (j : Nat) : List Int := match l[j]? with
  | some p => wtail p.1 p.2 (fsize (j : Int) : Nat)
  | none => []

/-- the bytes of the first k fields -/
def putK (l : List (Nat × Nat)) : Nat → List Int
  | 0 => []
  | k + 1 => putK l k ++ fby l k

theorem wtail_le (a b : Nat) (s : Int) : (wtail a b s).length ≤ 16 := by
  have := wtail_length a b s
  have := cl_le s 16
  omega

theorem fby_le (l : List (Nat × Nat)) (j : Nat) : (fby l j).length ≤ 16 := by
  unfold fby
  split
  · exact wtail_le _ _ _
  · simp

theorem putK_le (l : List (Nat × Nat)) : ∀ k, (putK l k).length ≤ 16 * k
  | 0 => by simp [putK]
  | k + 1 => by
    have := putK_le l k
    have := fby_le l k
    simp [putK]; omega

theorem keepE {g o1 o2 : Nat} {w0 wa wb : World} {x y : Value} (k : Below wa.heap.size wa wb) (h : wa.cell? ⟨g, o1, none⟩ = some x ∧ wa.cell? ⟨g, o2, none⟩ = some y ∧ Below w0.heap.size w0 wa) :
    wb.cell? ⟨g, o1, none⟩ = some x ∧ wb.cell? ⟨g, o2, none⟩ = some y ∧ Below w0.heap.size w0 wb := ⟨cell_later k h.1, cell_later k h.2.1, h.2.2.trans (k.mono h.2.2.size)⟩

set_option maxRecDepth 100000 in
set_option maxHeartbeats 2000000 in
theorem hput_any (l : List (Nat × Nat)) (hl : isH l) (w : World) :
    Calls Try.prog 11 #[hv l] w fun e w' => ∃ u, e = .returned u ∧ Bytes w' u (putK l 24) ∧ Below w.heap.size w w' := by
  unfold hv
  go_enter Try.func11, Try.ntmps11
  go_wp2
  have hA : Hid (HB (w.alloc (.cells (wdc l).toArray 26)) w.heap.size l) := hide_ (HB.new w l)
  have hB : Hid (Below w.heap.size w (w.alloc (.cells (wdc l).toArray 26))) := hide_ (by go_grown)
  have hY : Hid (Bytes (w.alloc (.cells (wdc l).toArray 26)) (.slice none 0 0) []) := hide_ (Bytes.nil _)
  generalize w.alloc (.cells (wdc l).toArray 26) = W at *
  go_loopw [3, 5] (fun u i wr => ∃ (k n : Nat) (ua : Option Addr) (uc : Nat), k ≤ 24 ∧ i = .int .i64 k ∧ u = .slice ua n uc ∧ Hid (HB wr w.heap.size l) ∧ Hid (Bytes wr (.slice ua n uc) (putK l k)) ∧ Below w.heap.size w wr) (fun _ i _ => 24 - (intOf i).toNat)
  case atStart => exact ⟨0, _, _, _, Nat.zero_le _, rfl, rfl, hA, hY, hB.out⟩
  case round =>
    obtain ⟨k, n, ua, uc, hk, rfl, rfl, HA, HY, hb⟩ := hrel
    by_cases hlt : k < 24
    · have hlt' : (k : Int) < 24 := by omega
      obtain ⟨x, y, hp, hx, hy⟩ := hl.get hlt
      obtain ⟨c0, c1, _, _⟩ := HA.out.cells hp
      have q1 := hide_ (fun w => fsize_any (k : Int) w)
      have HL := hide_ (putK_le l k)
      have HS : Hid (putK l k ++ wtail x y (fsize (k : Int) : Nat) = putK l (k + 1)) := hide_ (by simp [putK, fby, hp])
      have HX := hide_ hx
      have HZ := hide_ hy
      clear hp hx hy
      generalize hs : ((fsize (k : Int) : Nat) : Int) = s at *
      clear hs
      go_wp2_with fail
      go_region_held3 (fun w' => w'.cell? ⟨w.heap.size, k * 2, none⟩ = some (.int .u64 (x : Int)) ∧ w'.cell? ⟨w.heap.size, k * 2 + 1, none⟩ = some (.int .u64 (y : Int)) ∧ Below wr.heap.size wr w')
        (first | (exact keepE (by assumption) (by assumption)) | (exact ⟨c0, c1, (Below.refl _ _).drew⟩) | (exact keepE (Below.refl _ _).drew (by assumption)))
        (first | (go_at_call 17; refine (q1.out _).mono ?_; rintro e w1 ⟨rfl, b1⟩) | (go_at_call 16; refine (wput_any (.slice ua n uc) (putK l k) x y s _ (HY.out.later ((Below.refl _ _).drew.trans b1)) (by have := HL.out; omega) HX.out HZ.out).mono ?_; rintro e w2 ⟨r, rfl, hr, b2⟩; obtain ⟨ra, rc, rfl, _⟩ := (show ∃ a c, r = .slice a (putK l k ++ wtail x y s).length c ∧ True from by obtain ⟨a, c, e, _⟩ := hr; exact ⟨a, c, e, trivial⟩)))
      rename_i hH
      go_wp2
      go_roundw
      case rel => exact ⟨k + 1, _, ra, rc, by omega, by go_num, rfl, hide_ (HA.out.later hH.2.2), by rw [← HS.out]; exact hide_ (by rw [← List.length_append]; exact hr), hb.trans (hH.2.2.mono hb.size)⟩
      case measure => simp [intOf]; omega
    · have hlt' : ¬ (k : Int) < 24 := by omega
      have e : k = 24 := by omega
      subst e
      go_wp2
      go_ret
      exact ⟨_, rfl, HY.out, hb⟩

end Go.Proofs.Ytmpfpolanndakab
