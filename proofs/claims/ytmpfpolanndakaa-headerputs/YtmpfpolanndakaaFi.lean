import Derived.Test.YtmpfpolanndakaaFe
import Derived.Test.YtmpfpolanndakaaG
import Derived.Deep.QuietTactic
import Derived.BigQuiet
import Derived.WalkSmall
import Derived.Laws.StructEq
namespace Go.Proofs.Ytmpfpolanndakaa
open Go Go.RowKit
set_option linter.unusedVariables false
set_option linter.unusedSimpArgs false

theorem take_same {α : Type} {l m : List α} {k : Nat} {z : α} (h : l.take k = m.take k) (h1 : l[k]? = some z) (h2 : m[k]? = some z) : l.take (k + 1) = m.take (k + 1) := by
  rw [List.take_add_one, List.take_add_one, h, h1, h2]
theorem ne_at {α : Type} {l m : List α} {k : Nat} {z y : α} (h1 : l[k]? = some z) (h2 : m[k]? = some y) (h : ¬ z = y) : ¬ l = m := by
  intro e
  subst e
  rw [h1] at h2
  cases h2
  exact h rfl

set_option maxHeartbeats 400000 in
theorem wequal_len (ad ad' : Option Addr) (n n' cap cap' : Nat) (w : World) (h : n ≠ n') :
    Calls Try.prog 50 #[.slice ad n cap, .slice ad' n' cap'] w fun e w' => e = .returned (.bool false) ∧ w = w' := by
  have h1 : ((n : Int) != (n' : Int)) = true := by simp; omega
  go_enter Try.func50, Try.ntmps50
  go_wp2
  go_ret
  exact ⟨rfl, rfl⟩

set_option maxHeartbeats 2000000 in
theorem wequal_any (v u : Value) (l m : List (Nat × Nat)) (w : World) (h : Cells w v 2 l.length (wdc l)) (k : Cells w u 2 m.length (wdc m)) :
    Calls Try.prog 50 #[v, u] w fun e w' => e = .returned (.bool (decide (l = m))) ∧ Below w.heap.size w w' := by
  obtain ⟨a, cap, rfl⟩ : ∃ a cap, v = .slice a l.length cap := by obtain ⟨_, a, cap, e, _⟩ := h; exact ⟨a, cap, e⟩
  obtain ⟨a', cap', rfl⟩ : ∃ a cap, u = .slice a m.length cap := by obtain ⟨_, a, cap, e, _⟩ := k; exact ⟨a, cap, e⟩
  obtain ⟨_, hm, _, h4⟩ := h.at
  obtain ⟨_, _, _, k4⟩ := k.at
  clear h k
  by_cases hn : l.length = m.length
  · unfold maxLen at hm
    rw [← hn]
    have H := hide_ h4
    have H' := hide_ k4
    have HN := hide_ hn
    clear h4 k4 hn
    have h1 : ((l.length : Int) != (l.length : Int)) = false := by simp
    generalize hE : (decide (l = m)) = E at *
    have HEE := hide_ hE
    clear hE
    go_enter Try.func50, Try.ntmps50
    go_wp2
    go_loopw [13] (fun i wr => ∃ k : Nat, k ≤ l.length ∧ i = .int .i64 k ∧ Hid (l.take k = m.take k) ∧ Below w.heap.size w wr) (fun i _ => l.length - (intOf i).toNat)
    case atStart => exact ⟨0, Nat.zero_le _, rfl, rfl, Below.refl _ _⟩
    case round =>
      obtain ⟨k, hk, rfl, HT, hb⟩ := hrel
      by_cases hlt : k < l.length
      · obtain ⟨⟨p1, p2⟩, hp⟩ : ∃ p, l[k]? = some p := ⟨_, List.getElem?_eq_getElem hlt⟩
        obtain ⟨⟨q1, q2⟩, hq⟩ : ∃ p, m[k]? = some p := ⟨_, List.getElem?_eq_getElem (by have := HN.out; omega)⟩
        obtain ⟨x0, x1⟩ := wdc_at l k _ hp
        obtain ⟨y0, y1⟩ := wdc_at m k _ hq
        obtain ⟨b, off, rfl, c0⟩ := H.out _ _ x0
        obtain ⟨_, _, e, c1⟩ := H.out _ _ x1
        cases e
        obtain ⟨b', off', rfl, d0⟩ := H'.out _ _ y0
        obtain ⟨_, _, e, d1⟩ := H'.out _ _ y1
        cases e
        have c0 := cell_later hb c0
        have c1 := cell_later hb c1
        have d0 := cell_later hb d0
        have d1 := cell_later hb d1
        rw [← Nat.add_assoc] at c1 d1
        have HP := hide_ hp
        have HQ := hide_ hq
        clear hp hq x0 x1 y0 y1
        have hlt' : (k : Int) < (l.length : Int) := by omega
        by_cases e1 : p1 = q1
        · subst e1
          by_cases e2 : p2 = q2
          · subst e2
            go_wp2_with fail
            go_quiet (fail)
            go_wp2
            go_roundw
            case rel => exact ⟨k + 1, by omega, by go_num, hide_ (take_same HT.out HP.out HQ.out), below_drewN hb nq⟩
            case measure => simp [intOf]; omega
          · have g2 : (((p2 : Nat) : Int) == (q2 : Int)) = false := by simp; omega
            have HE2 := hide_ e2
            clear e2
            go_wp2_with fail
            go_quiet (fail)
            go_wp2
            go_ret
            exact ⟨by rw [← HEE.out, decide_eq_false (ne_at HP.out HQ.out (fun e => HE2.out (Prod.mk.inj e).2))]; rfl, below_drewN hb _⟩
        · have g1 : (((p1 : Nat) : Int) == (q1 : Int)) = false := by simp; omega
          have HE1 := hide_ e1
          clear e1
          go_wp2_with fail
          go_quiet (fail)
          go_wp2
          go_ret
          exact ⟨by rw [← HEE.out, decide_eq_false (ne_at HP.out HQ.out (fun e => HE1.out (Prod.mk.inj e).1))]; rfl, below_drewN hb _⟩
      · have hlt' : ¬ (k : Int) < (l.length : Int) := by omega
        go_wp2
        go_ret
        refine ⟨?_, hb⟩
        have : l = m := by
          have e := HT.out
          rw [List.take_of_length_le (by omega), List.take_of_length_le (by have := HN.out; omega)] at e
          exact e
        rw [← HEE.out, decide_eq_true this]
        rfl
  · refine (wequal_len a a' l.length m.length cap cap' w hn).mono fun e w' ⟨he, hw⟩ => ?_
    subst hw
    rw [decide_eq_false (by intro e; exact hn (by rw [e]))]
    exact ⟨he, Below.refl _ _⟩

end Go.Proofs.Ytmpfpolanndakaa
