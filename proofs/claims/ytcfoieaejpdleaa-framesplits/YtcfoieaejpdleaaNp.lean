import Derived.Test.YtcfoieaejpdleaaNg
import Derived.Test.YtcfoieaejpdleaaNi
import Derived.Deep.RegionHeld3
import Derived.Deep.RegionWith
import Derived.Deep.MidRow
import Derived.Deep.Cut
import Derived.WalkMore
namespace Go.Proofs.Ytcfoieaejpdleaa
open Go Go.RowKit
set_option linter.unusedVariables false
set_option linter.unusedSimpArgs false
attribute [local go_sem] Oper.semAt_some

/-- a slice of slices of bytes, to be read -/
def RB (W : World) (u : Value) (M : List (List Int)) : Prop := ∃ a c, u = .slice a M.length c ∧ M.length ≤ c ∧ c ≤ maxLen ∧ ∀ (i : Nat) (x : List Int), M[i]? = some x → ∃ b off a' c', a = some ⟨b, off, none⟩ ∧ W.cell? ⟨b, off + i, none⟩ = some (.slice a' x.length c') ∧ Bytes W (.slice a' x.length c') x
theorem RB.later {W W' : World} {u : Value} {M : List (List Int)} (h : RB W u M) (hb : Below W.heap.size W W') : RB W' u M := by
  obtain ⟨a, c, rfl, h1, h2, h3⟩ := h
  refine ⟨a, c, rfl, h1, h2, fun i x hx => ?_⟩
  obtain ⟨b, off, a', c', e, h4, h5⟩ := h3 i x hx
  exact ⟨b, off, a', c', e, cell_later hb h4, h5.later hb⟩
theorem RowsAt.rb {W : World} {u : Value} {M : List (List Int)} (h : RowsAt W u M) : RB W u M := by
  obtain ⟨vs, o, hl, hp⟩ := h
  rcases id o.2 with ⟨rfl, h0⟩ | ⟨g, cap, cur, rfl, -, -, h1, h2, -⟩
  · have hM : M = [] := List.eq_nil_of_length_eq_zero h0
    subst hM
    exact ⟨none, 0, rfl, Nat.le_refl _, Nat.zero_le _, fun i x hx => by simp at hx⟩
  · refine ⟨_, cap, rfl, h1, h2, fun i x hx => ?_⟩
    have hi := (List.getElem?_eq_some_iff.1 hx).1
    obtain ⟨v, hv⟩ : ∃ v, vs[i]? = some v := ⟨_, List.getElem?_eq_getElem (by omega)⟩
    obtain ⟨hb, a', c', rfl⟩ := hp i v x hv hx
    have := o.cells rfl i _ hv
    rw [Addr.add_lit] at this
    exact ⟨g, 0, a', c', rfl, this, hb⟩
theorem take_succ_gen {α : Type} {l m : List α} {k : Nat} {z : α} (h : l.take k = m.take k) (h1 : l[k]? = some z) (h2 : m[k]? = some z) : l.take (k + 1) = m.take (k + 1) := by
  rw [List.take_add_one, List.take_add_one, h, h1, h2]
theorem beq_diff_gen {l m : List (List Int)} {k : Nat} {z y : List Int} (h1 : l[k]? = some z) (h2 : m[k]? = some y) (h : ¬ z = y) : (l == m) = false := by
  rw [beq_eq_false_iff_ne]
  rintro rfl
  rw [h1] at h2
  cases h2
  exact h rfl
set_option maxRecDepth 100000 in
set_option maxHeartbeats 8000000 in
theorem eqf_any (u u' : Value) (L M : List (List Int)) (w : World) (h : RB w u L) (k : RB w u' M) :
    Calls Try.prog 10 #[u, u', .func (.func 12) #[] #[]] w fun e w' => e = .returned (.bool (L == M)) ∧ Below w.heap.size w w' := by
  obtain ⟨a, c, rfl, h1, h2, h3⟩ := h
  obtain ⟨a', c', rfl, k1, k2, k3⟩ := k
  unfold maxLen at h2 k2
  by_cases hn : L.length = M.length
  · rw [← hn]
    have H := hide_ h3
    have H' := hide_ k3
    have HN := hide_ hn
    have g1 : ((L.length : Int) != (L.length : Int)) = false := by simp
    have hm : L.length ≤ 9223372036854775807 := by omega
    generalize hE : (L == M) = E at *
    have HEE := hide_ hE
    clear hE h3 k3 hn h1 k1 h2 k2
    go_enter Try.func10, Try.ntmps10
    go_wp2_with fail
    go_loopw [17] (fun i wr => ∃ k : Nat, k ≤ L.length ∧ i = .int .i64 k ∧ Hid (L.take k = M.take k) ∧ Hid (Below w.heap.size w wr)) (fun i _ => L.length - (intOf i).toNat)
    case atStart => exact ⟨0, Nat.zero_le _, rfl, hide_ rfl, hide_ (Below.refl _ _)⟩
    case round =>
      obtain ⟨k, hk, rfl, HT, KB⟩ := hrel
      by_cases hlt : k < L.length
      · obtain ⟨z, hz⟩ : ∃ z, L[k]? = some z := ⟨_, List.getElem?_eq_getElem hlt⟩
        obtain ⟨y, hy⟩ : ∃ y, M[k]? = some y := ⟨_, List.getElem?_eq_getElem (by have := HN.out; omega)⟩
        obtain ⟨b1, off1, a1, c1, rfl, x1, y1⟩ := H.out k z hz
        obtain ⟨b2, off2, a2, c2, rfl, x2, y2⟩ := H'.out k y hy
        have x1 := cell_later KB.out x1
        have x2 := cell_later KB.out x2
        have y1 := hide_ (y1.later KB.out)
        have y2 := hide_ (y2.later KB.out)
        have HZ := hide_ hz
        have HY := hide_ hy
        clear hz hy
        have hlt' : (k : Int) < (L.length : Int) := by omega
        have q := hide_ (bequal_any _ _ z y wr y1.out y2.out)
        by_cases hzy : z = y
        · have hE1 : (z == y) = true := by simpa using hzy
          rw [hE1] at q
          have HZY := hide_ hzy
          clear hzy hE1
          go_wp2_with (go_at_call 12; refine q.out.mono ?_; rintro e w1 ⟨rfl, e1⟩; have e1 := e1.symm; subst e1)
          go_roundw
          case rel => exact ⟨k + 1, by omega, by go_num, hide_ (take_succ_gen HT.out HZ.out (by rw [HY.out, HZY.out])), KB⟩
          case measure => simp [intOf]; omega
        · have hE1 : (z == y) = false := by simpa using hzy
          rw [hE1] at q
          have HZY := hide_ hzy
          clear hzy hE1
          go_wp2_with (go_at_call 12; refine q.out.mono ?_; rintro e w1 ⟨rfl, e1⟩; have e1 := e1.symm; subst e1)
          go_ret
          exact ⟨by rw [← HEE.out, beq_diff_gen HZ.out HY.out HZY.out]; rfl, KB.out⟩
      · have hlt' : ¬ (k : Int) < (L.length : Int) := by omega
        go_wp2
        go_ret
        refine ⟨?_, KB.out⟩
        have : L = M := by
          have e := HT.out
          rw [List.take_of_length_le (by omega), List.take_of_length_le (by have := HN.out; omega)] at e
          exact e
        rw [← HEE.out, this]
        simp
  · have g1 : ((L.length : Int) != (M.length : Int)) = true := by simp; omega
    have hE : (L == M) = false := by
      rw [beq_eq_false_iff_ne]
      rintro rfl
      exact hn rfl
    rw [hE]
    clear h3 k3 h1 k1 h2 k2 hn hE
    go_enter Try.func10, Try.ntmps10
    go_wp2
    go_ret
    exact ⟨rfl, Below.refl _ _⟩

end Go.Proofs.Ytcfoieaejpdleaa
