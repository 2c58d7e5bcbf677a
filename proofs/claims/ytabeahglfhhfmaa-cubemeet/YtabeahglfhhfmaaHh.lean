import Derived.Test.YtabeahglfhhfmaaProg
import Derived.Test.YtabeahglfhhfmaaK
import Derived.Test.YtabeahglfhhfmaaFe
import Derived.Test.YtabeahglfhhfmaaFi
import Derived.Below
import Derived.BigQuiet
import Derived.BigRegion
import Derived.ChangeAlike
import Derived.ChangeKeysEq
import Derived.ChangeSame
import Derived.DataElems
import Derived.Deep.MidRow
import Derived.Deep.QuietTactic
import Derived.Deep.RegionHeld
import Derived.Deep.RegionHeld3
import Derived.Deep.RegionLaw
import Derived.Deep.RegionLawGrows
import Derived.Deep.RegionWith
import Derived.Deep.WholeRow
import Derived.Great.BuildSlice
import Derived.Handy
import Derived.Laws.AppendOwn
import Derived.Laws.AppendOwnNone
import Derived.Laws.BitsAllLaws
import Derived.Laws.BitsLemmas
import Derived.Laws.CopyOwn
import Derived.Laws.OwnMore
import Derived.Laws.Rows
import Derived.Laws.StructEq
import Derived.Laws.Tables
import Derived.Lib.SmallJoins
import Derived.OpenShut
import Derived.ProofKit
import Derived.RegionTactic
import Derived.WalkKit
import Derived.WalkLawsBesides
import Derived.WalkSmall
import Derived.WalkSpells
import Derived.WideShapes
namespace Go.Proofs.Ytabeahglfhhfmaa
open Go Go.RowKit
set_option linter.unusedVariables false
set_option linter.unusedSimpArgs false

def i64s (l : List Nat) : List Value := l.map fun (x : Nat) => Value.int .i64 (x : Int)

theorem i64s_length (l : List Nat) : (i64s l).length = l.length := by simp [i64s]

theorem i64s_app (l m : List Nat) : i64s (l ++ m) = i64s l ++ i64s m := by simp [i64s]

theorem info3 : (Try.prog.info? 3).map (fun i => (i.zero, i.size, i.bytes)) = some (some (.int .i64 0), 1, 8) := by kernel_rfl

set_option maxHeartbeats 400000 in
theorem iequal_len (ad ad' : Option Addr) (n n' cap cap' : Nat) (w : World) (h : n ≠ n') :
    Calls Try.prog 15 #[.slice ad n cap, .slice ad' n' cap'] w fun e w' => e = .returned (.bool false) ∧ w = w' := by
  have h1 : ((n : Int) != (n' : Int)) = true := by simp; omega
  go_enter Try.func15, Try.ntmps15
  go_wp2
  go_ret
  exact ⟨rfl, rfl⟩

set_option maxHeartbeats 2000000 in
theorem iequal_any (v u : Value) (l m : List Nat) (w : World) (h : Cells w v 1 l.length (i64s l)) (k : Cells w u 1 m.length (i64s m)) :
    Calls Try.prog 15 #[v, u] w fun e w' => e = .returned (.bool (decide (l = m))) ∧ Below w.heap.size w w' := by
  obtain ⟨a, cap, rfl⟩ : ∃ a cap, v = .slice a l.length cap := by obtain ⟨_, a, cap, e, _⟩ := h; exact ⟨a, cap, e⟩
  obtain ⟨a', cap', rfl⟩ : ∃ a cap, u = .slice a m.length cap := by obtain ⟨_, a, cap, e, _⟩ := k; exact ⟨a, cap, e⟩
  obtain ⟨_, hm, _, h4⟩ := h.at
  obtain ⟨_, _, _, k4⟩ := k.at
  clear h k
  by_cases hn : l.length = m.length
  · unfold maxLen at hm
    rw [← hn]
    have H := hide_ h4
    have H' := hide_ k4
    have HN := hide_ hn
    clear h4 k4 hn
    have h1 : ((l.length : Int) != (l.length : Int)) = false := by simp
    generalize hE : (decide (l = m)) = E at *
    have HEE := hide_ hE
    clear hE
    go_enter Try.func15, Try.ntmps15
    go_wp2
    go_loopw [13] (fun i wr => ∃ k : Nat, k ≤ l.length ∧ i = .int .i64 k ∧ Hid (l.take k = m.take k) ∧ Below w.heap.size w wr) (fun i _ => l.length - (intOf i).toNat)
    case atStart => exact ⟨0, Nat.zero_le _, rfl, rfl, Below.refl _ _⟩
    case round =>
      obtain ⟨k, hk, rfl, HT, hb⟩ := hrel
      by_cases hlt : k < l.length
      · obtain ⟨p1, hp⟩ : ∃ p, l[k]? = some p := ⟨_, List.getElem?_eq_getElem hlt⟩
        obtain ⟨q1, hq⟩ : ∃ p, m[k]? = some p := ⟨_, List.getElem?_eq_getElem (by have := HN.out; omega)⟩
        obtain ⟨b, off, rfl, c0⟩ := H.out k (.int .i64 (p1 : Int)) (by simp [i64s, hp])
        obtain ⟨b', off', rfl, d0⟩ := H'.out k (.int .i64 (q1 : Int)) (by simp [i64s, hq])
        have c0 := cell_later hb c0
        have d0 := cell_later hb d0
        have HP := hide_ hp
        have HQ := hide_ hq
        clear hp hq
        have hlt' : (k : Int) < (l.length : Int) := by omega
        by_cases e1 : p1 = q1
        · subst e1
          have g1 : (((p1 : Nat) : Int) != (p1 : Int)) = false := by simp
          go_wp2_with fail
          go_quiet (fail)
          go_wp2
          go_roundw
          case rel => exact ⟨k + 1, by omega, by go_num, hide_ (take_same HT.out HP.out HQ.out), below_drewN hb nq⟩
          case measure => simp [intOf]; omega
        · have g1 : (((p1 : Nat) : Int) != (q1 : Int)) = true := by simp; omega
          have HE1 := hide_ e1
          clear e1
          go_wp2_with fail
          go_quiet (fail)
          go_wp2
          go_ret
          exact ⟨by rw [← HEE.out, decide_eq_false (ne_at HP.out HQ.out HE1.out)]; rfl, below_drewN hb _⟩
      · have hlt' : ¬ (k : Int) < (l.length : Int) := by omega
        go_wp2
        go_ret
        refine ⟨?_, hb⟩
        have : l = m := by
          have e := HT.out
          rw [List.take_of_length_le (by omega), List.take_of_length_le (by have := HN.out; omega)] at e
          exact e
        rw [← HEE.out, decide_eq_true this]
        rfl
  · refine (iequal_len a a' l.length m.length cap cap' w hn).mono fun e w' ⟨he, hw⟩ => ?_
    subst hw
    rw [decide_eq_false (by intro e; exact hn (by rw [e]))]
    exact ⟨he, Below.refl _ _⟩

end Go.Proofs.Ytabeahglfhhfmaa
