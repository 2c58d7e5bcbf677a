import Derived.Test.YtmpfpolanndakaaFi
import Derived.Test.YtmpfpolanndakaaFf
namespace Go.Proofs.Ytmpfpolanndakaa
open Go Go.RowKit
set_option linter.unusedVariables false
set_option linter.unusedSimpArgs false

set_option maxHeartbeats 1000000 in
theorem same_true (f : Int) (a a' : Option Addr) (c c' : Nat) (l : List Nat) (w : World) (h : Cells w (.slice a l.length c) 2 l.length (wdc (lo l))) (h' : Cells w (.slice a' l.length c') 2 l.length (wdc (lo l))) :
    Calls Try.prog 26 #[.agg #[.int .i64 f, .slice a l.length c], .agg #[.int .i64 f, .slice a' l.length c']] w fun e w' => e = .returned (.bool true) ∧ Below w.heap.size w w' := by
  have H := hide_ h
  have H' := hide_ h'
  clear h h'
  have ef : (f == f) = true := by simp
  have HL : Hid ((lo l).length = l.length) := hide_ (lo_length l)
  go_enter Try.func26, Try.ntmps26
  go_wp2_with (go_at_call 50; refine (wequal_any _ _ (lo l) (lo l) _ (by rw [HL.out]; exact H.out.later (by go_grown)) (by rw [HL.out]; exact H'.out.later (by go_grown))).mono ?_; rintro e w1 ⟨rfl, hb1⟩)
  go_ret
  exact ⟨by simp, (by go_grown : Below w.heap.size w ((w.alloc (.cells #[.int .i64 f, .slice a l.length c] 31)).alloc (.cells #[.int .i64 f, .slice a' l.length c'] 31))).trans (hb1.mono (by simp; omega))⟩

set_option maxHeartbeats 2000000 in
theorem eqfunc_true (v u : Value) (l : List (Int × List Nat)) (w : World) (h : NeedsAt w v l) (k : NeedsAt w u l) :
    Calls Try.prog 23 #[v, u, .func (.func 26) #[] #[]] w fun e w' => e = .returned (.bool true) ∧ Below w.heap.size w w' := by
  obtain ⟨a, cap, rfl, h1, h2, h3, h4⟩ := h
  obtain ⟨a', cap', rfl, k1, k2, k3, k4⟩ := k
  have H := hide_ h4
  have H' := hide_ k4
  have hm : l.length ≤ 9223372036854775807 := by unfold maxLen at h2; omega
  clear h4 k4 h1 h2 h3 k1 k2 k3
  have e1 : ((l.length : Int) != (l.length : Int)) = false := by simp
  go_enter Try.func23, Try.ntmps23
  go_wp2
  go_loopw [17] (fun i wr => ∃ k : Nat, k ≤ l.length ∧ i = .int .i64 k ∧ Below w.heap.size w wr) (fun i _ => l.length - (intOf i).toNat)
  case atStart => exact ⟨0, Nat.zero_le _, rfl, Below.refl _ _⟩
  case round =>
    obtain ⟨k, hk, rfl, hb⟩ := hrel
    by_cases hlt : k < l.length
    · obtain ⟨⟨p1, p2⟩, hp⟩ : ∃ p, l[k]? = some p := ⟨_, List.getElem?_eq_getElem hlt⟩
      obtain ⟨b, off, ua, uc, rfl, c0, c1, c2⟩ := H.out _ _ hp
      obtain ⟨b', off', ua', uc', rfl, d0, d1, d2⟩ := H'.out _ _ hp
      have c0 := cell_later hb c0
      have c1 := cell_later hb c1
      have d0 := cell_later hb d0
      have d1 := cell_later hb d1
      have C2 := hide_ (c2.later hb)
      have D2 := hide_ (d2.later hb)
      rw [← Nat.add_assoc] at c1 d1
      dsimp only at c0 c1 d0 d1
      have d0' : ∀ o, (wr.alloc o).cell? ⟨b', off' + k * 2, none⟩ = some (.int .i64 p1) := fun o => cell_later (by go_grown) d0
      have d1' : ∀ o, (wr.alloc o).cell? ⟨b', off' + k * 2 + 1, none⟩ = some (.slice ua' p2.length uc') := fun o => cell_later (by go_grown) d1
      clear hp c2 d2
      have hlt' : (k : Int) < (l.length : Int) := by omega
      go_wp2_with (go_at_call 26; refine (same_true p1 ua ua' uc uc' p2 _ (C2.out.later (by go_grown)) (D2.out.later (by go_grown))).mono ?_; rintro e w1 ⟨rfl, hb1⟩)
      go_roundw
      case rel => exact ⟨k + 1, by omega, by go_num, hb.trans (((by go_grown : Below wr.heap.size wr _).trans (hb1.mono (by simp; omega))).mono hb.size)⟩
      case measure => simp [intOf]; omega
    · have hlt' : ¬ (k : Int) < (l.length : Int) := by omega
      go_wp2
      go_ret
      exact ⟨rfl, hb⟩

end Go.Proofs.Ytmpfpolanndakaa
