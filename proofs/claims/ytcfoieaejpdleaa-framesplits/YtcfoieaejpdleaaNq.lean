import Derived.Test.YtcfoieaejpdleaaNp
import Derived.Test.YtcfoieaejpdleaaNo
import Derived.Deep.RegionHeld3
import Derived.Deep.RegionWith
import Derived.Deep.MidRow
import Derived.Deep.Cut
import Derived.WalkMore
import Derived.WalkKit
import Derived.OpenShut
import Derived.ChangeSame
import Derived.WideShapes
import Derived.Deep.Slices
import Derived.Lib.SmallJoins
namespace Go.Proofs.Ytcfoieaejpdleaa
open Go Go.RowKit
set_option linter.unusedVariables false
set_option linter.unusedSimpArgs false
attribute [local go_sem] Oper.semAt_some

section
open Go Go.RowKit Go.ChangeShapes Go.WideShapes Go.Deep
theorem addr_add0 (q off n : Nat) : (⟨q, off, none⟩ : Addr).add n = ⟨q, off + n, none⟩ := by
  unfold Addr.add; split <;> simp_all
theorem addr_form {W : World} {x : Addr} {u : Value} (h : W.cell? x = some u) : ∃ q off, x = ⟨q, off, none⟩ := by
  obtain ⟨q, off, s⟩ := x
  cases s with
  | none => exact ⟨q, off, rfl⟩
  | some s =>
    exfalso
    unfold World.cell? at h
    split at h <;> simp at h
/-- a slice of flat things that came in, opened at every place -/
theorem open_each {H : Type} {enc : TypeId × Value → H} {P : Program} {W : World} {r : Reach} {b0 base : Nat} {spare : Nat → Bool} {held : Bool} {t e : TypeId} {v : Value} {d : DataW H} {p : List MemPlace} {α : Type} [Inhabited α] (cl : α → List Value) (good : α → Prop) (k : Nat) (hk : 0 < k) (hcl : ∀ o, (cl o).length = k)
    (ht : P.underlying t = some (.slice e)) (hce : P.cellsOf e = k) (one : ∀ {fuel : Nat} {cs : List Value} {x : DataW H × List MemPlace}, DataW.trod enc P W base spare held fuel e cs = some x → ∃ o, cs = cl o ∧ good o)
    (hv : Value.okWide P W r b0 t v) (h : DataW.Trod enc P W base spare held t v d p) :
    ∃ (a : Option Addr) (cap : Nat) (L : List α), v = .slice a L.length cap ∧ L.length ≤ cap ∧ cap ≤ maxLen ∧ (a = none → cap = 0) ∧ (∀ o ∈ L, good o) ∧
      ∀ i o, L[i]? = some o → ∃ q off, a = some ⟨q, off, none⟩ ∧ ∀ j u, (cl o)[j]? = some u → W.cell? ⟨q, off + i * k + j, none⟩ = some u := by
  obtain ⟨a, len, cap, rfl⟩ := okWide_slice ht hv
  obtain ⟨fuel, hf⟩ := h
  rcases open_slice ht hf with ⟨hcs, -⟩ | ⟨x, l, c, m, n, D, Pl, hcs, hb, hl, hm, hmm, -, hx⟩
  · simp [Value.cells] at hcs
    obtain ⟨rfl, rfl, rfl⟩ := hcs
    exact ⟨none, 0, [], rfl, Nat.le_refl _, Nat.zero_le _, fun _ => rfl, (fun o ho => by cases ho), (fun i o hi => by simp at hi)⟩
  · simp [Value.cells] at hcs
    obtain ⟨rfl, rfl, rfl⟩ := hcs
    have hlm : len ≤ m := by rw [hmm]; split <;> omega
    obtain ⟨q, hq⟩ := choose_lt (α := α) (n := m) (p := fun i o => good o ∧ ∀ j, j < k → W.cell? (x.add (i * k + j)) = (cl o)[j]?) (fun i hi => by
      obtain ⟨cs', h1, h2⟩ := hx i hi
      rw [hce] at h1
      obtain ⟨o, rfl, go⟩ := one h2
      obtain ⟨-, -, hcell⟩ := World.cells?_some h1
      refine ⟨o, go, fun j hj => ?_⟩
      have := hcell j hj
      rw [add_add] at this
      exact this)
    have hll : ((List.range len).map q).length = len := by simp
    refine ⟨some x, cap, (List.range len).map q, by rw [hll], by omega, hm, (fun e => by cases e), fun o ho => ?_, fun i o hi => ?_⟩
    · obtain ⟨i, hi, rfl⟩ := List.mem_map.1 ho
      exact (hq i (by have := List.mem_range.1 hi; omega)).1
    · rw [List.getElem?_map] at hi
      obtain ⟨i', hi', rfl⟩ := Option.map_eq_some_iff.1 hi
      obtain ⟨hlt, rfl⟩ : i < len ∧ i' = i := by
        rw [List.getElem?_eq_some_iff] at hi'
        obtain ⟨h1, h2⟩ := hi'
        simp at h1 h2
        exact ⟨h1, h2.symm⟩
      have h00 := (hq 0 (by omega)).2 0 hk
      have hlt0 : 0 < (cl (q 0)).length := by rw [hcl]; exact hk
      rw [List.getElem?_eq_getElem hlt0] at h00
      have e0 : x.add (0 * k + 0) = x := by simp [Addr.add]
      rw [e0] at h00
      obtain ⟨b, off, rfl⟩ := addr_form h00
      refine ⟨b, off, rfl, fun j u hj => ?_⟩
      have hjk : j < k := by
        have := (List.getElem?_eq_some_iff.1 hj).1
        rw [hcl] at this; exact this
      have := (hq i' (by omega)).2 j hjk
      rw [addr_add0, hj] at this
      rw [Nat.add_assoc]; exact this
theorem bytes_of_trod {H : Type} {enc : TypeId × Value → H} {W : World} {base : Nat} {spare : Nat → Bool} {held : Bool} {fuel : Nat} {cs : List Value} {x : DataW H × List MemPlace} (hf : DataW.trod enc Try.prog W base spare held fuel 22 cs = some x) : ∃ p : Value × List Int, cs = [p.1] ∧ (Bytes W p.1 p.2 ∧ ∃ a c, p.1 = .slice a p.2.length c) := by
  rcases open_ints Try.underlying22 Try.underlying5 (by kernel_rfl) hf with ⟨rfl, _⟩ | ⟨x, len, cap, zs, rfl, _, hl, hm, hz, _, hcell, hwz⟩
  · exact ⟨(.slice none 0 0, []), rfl, Bytes.nil W, none, 0, rfl⟩
  · have hz' : len ≤ zs.length := by rw [hz]; split <;> omega
    have hlen : (zs.take len).length = len := by simp; omega
    refine ⟨(.slice (some x) len cap, zs.take len), rfl, ⟨some x, cap, by rw [hlen], (by show (zs.take len).length ≤ cap; omega), hm, ?_, (fun e => by cases e), fun ad e j z hj => ?_⟩, some x, cap, by rw [hlen]⟩
    · intro z hz'
      have := hwz z (List.mem_of_mem_take hz')
      have e1 : IntKind.u8.min = 0 := by decide
      have e2 : IntKind.u8.max = 255 := by decide
      simp [Lit.wf, e1, e2] at this
      exact ⟨by omega, by omega⟩
    · cases e
      have hj1 : j < zs.length := by
        have := (List.getElem?_eq_some_iff.1 hj).1
        simp at this; omega
      rw [List.getElem?_take] at hj
      split at hj
      · have h2 := hcell j hj1
        rw [h2, List.getD_eq_getElem?_getD, hj]
        rfl
      · cases hj
theorem open_bss {H : Type} {enc : TypeId × Value → H} {W : World} {r : Reach} {b0 base : Nat} {spare : Nat → Bool} {held : Bool} {v : Value} {d : DataW H} {p : List MemPlace}
    (hv' : Value.okWide Try.prog W r b0 27 v) (h : DataW.Trod enc Try.prog W base spare held 27 v d p) : ∃ M, RB W v M := by
  have : Inhabited (Value × List Int) := ⟨(.slice none 0 0, [])⟩
  obtain ⟨a, cap, P, rfl, h1, h2, h3, h4, h5⟩ := open_each (fun p : Value × List Int => [p.1]) (fun p => Bytes W p.1 p.2 ∧ ∃ a c, p.1 = .slice a p.2.length c) 1 (by omega) (fun o => rfl) Try.underlying27 (by kernel_rfl) (fun hh => bytes_of_trod hh) hv' h
  refine ⟨P.map (·.2), a, cap, by rw [List.length_map], by rw [List.length_map]; exact h1, h2, fun i x hi => ?_⟩
  rw [List.getElem?_map] at hi
  obtain ⟨p, hp, rfl⟩ := Option.map_eq_some_iff.1 hi
  obtain ⟨q, off, e, hc⟩ := h5 i p hp
  obtain ⟨hB, a', c', e'⟩ := h4 p (List.mem_of_getElem? hp)
  refine ⟨q, off, a', c', e, ?_, ?_⟩
  · have := hc 0 _ rfl
    rw [e'] at this
    simpa using this
  · rw [← e']
    exact hB
end
set_option maxRecDepth 100000 in
set_option maxHeartbeats 8000000 in
theorem gt400_any (v : Value) (l : List Int) (w : World) (hB : Bytes w v l) :
    Calls Try.prog 20 #[v] w fun e w' => e = .returned (.bool (decide (400 < l.length))) ∧ w = w' := by
  have hm := hB.big
  obtain ⟨ao, cap, rfl⟩ := hB.short
  clear hB
  by_cases h : 400 < l.length
  · have h' : (400 : Int) < (l.length : Int) := by omega
    have e : decide (400 < l.length) = true := by simpa using h
    rw [e]
    clear e h
    go_enter Try.func20, Try.ntmps20
    go_wp2
    go_ret
    exact ⟨rfl, rfl⟩
  · have h' : ¬ (400 : Int) < (l.length : Int) := by omega
    have e : decide (400 < l.length) = false := by simpa using h
    rw [e]
    clear e h
    go_enter Try.func20, Try.ntmps20
    go_wp2
    go_ret
    exact ⟨rfl, rfl⟩

/-- whether one of them is longer -/
def anyL (M : List (List Int)) : Bool := M.any (fun x => decide (400 < x.length))
set_option maxRecDepth 100000 in
set_option maxHeartbeats 8000000 in
theorem idx400_any (u : Value) (M : List (List Int)) (w : World) (h : RB w u M) :
    Calls Try.prog 32 #[u, .func (.func 20) #[] #[]] w fun e w' => (∃ i : Int, e = .returned (.int .i64 i) ∧ decide (0 ≤ i) = anyL M) ∧ Below w.heap.size w w' := by
  obtain ⟨a, c, rfl, h1, h2, h3⟩ := h
  unfold maxLen at h2
  have H := hide_ h3
  have hm : M.length ≤ 9223372036854775807 := by omega
  clear h3 h1 h2
  go_enter Try.func32, Try.ntmps32
  go_wp2
  go_loopw [5, 8] (fun _ i wr => ∃ k : Nat, k ≤ M.length ∧ i = .int .i64 k ∧ Hid (∀ i x, i < k → M[i]? = some x → ¬ 400 < x.length) ∧ Hid (Below w.heap.size w wr)) (fun _ i _ => M.length - (intOf i).toNat)
  case atStart => exact ⟨0, Nat.zero_le _, rfl, hide_ (fun i x hi => by omega), hide_ (Below.refl _ _)⟩
  case round =>
    obtain ⟨k, hk, rfl, HT, KB⟩ := hrel
    by_cases hlt : k < M.length
    · obtain ⟨z, hz⟩ : ∃ z, M[k]? = some z := ⟨_, List.getElem?_eq_getElem hlt⟩
      obtain ⟨b1, off1, a1, c1, rfl, x1, y1⟩ := H.out k z hz
      have x1 := cell_later KB.out x1
      have y1 := hide_ (y1.later KB.out)
      have HZ := hide_ hz
      clear hz
      have hlt' : (k : Int) < (M.length : Int) := by omega
      have q := hide_ (gt400_any _ z wr y1.out)
      by_cases hzl : 400 < z.length
      · have hE1 : decide (400 < z.length) = true := by simpa using hzl
        rw [hE1] at q
        have HZL := hide_ hzl
        clear hzl hE1
        go_wp2_with (go_at_call 20; refine q.out.mono ?_; rintro e w1 ⟨rfl, e1⟩; have e1 := e1.symm; subst e1)
        go_ret
        refine ⟨⟨(k : Int), rfl, ?_⟩, KB.out⟩
        have : anyL M = true := List.any_eq_true.2 ⟨z, List.mem_of_getElem? HZ.out, by simpa using HZL.out⟩
        rw [this]
        simp
      · have hE1 : decide (400 < z.length) = false := by simpa using hzl
        rw [hE1] at q
        have HZL := hide_ hzl
        clear hzl hE1
        go_wp2_with (go_at_call 20; refine q.out.mono ?_; rintro e w1 ⟨rfl, e1⟩; have e1 := e1.symm; subst e1)
        go_roundw
        case rel => exact ⟨k + 1, by omega, by go_num, hide_ (fun i x hi hx => by
          by_cases e : i = k
          · subst e
            have := HZ.out.symm.trans hx
            cases this
            exact HZL.out
          · exact HT.out i x (by omega) hx), KB⟩
        case measure => simp [intOf]; omega
    · have hlt' : ¬ (k : Int) < (M.length : Int) := by omega
      go_wp2
      go_ret
      refine ⟨⟨-1, rfl, ?_⟩, KB.out⟩
      have : anyL M = false := List.any_eq_false.2 (fun x hx => by
        obtain ⟨i, hi⟩ := List.mem_iff_getElem?.1 hx
        have := (List.getElem?_eq_some_iff.1 hi).1
        simpa using HT.out i x (by omega) hi)
      rw [this]
      decide

set_option maxRecDepth 100000 in
set_option maxHeartbeats 8000000 in
theorem cont400_any (u : Value) (M : List (List Int)) (w : World) (h : RB w u M) :
    Calls Try.prog 19 #[u, .func (.func 20) #[] #[]] w fun e w' => e = .returned (.bool (anyL M)) ∧ Below w.heap.size w w' := by
  have q := hide_ (idx400_any u M w h)
  obtain ⟨a, c, rfl, -⟩ := h
  generalize anyL M = z at *
  go_enter Try.func19, Try.ntmps19
  go_wp2_with (go_at_call 32; refine q.out.mono ?_; rintro e w1 ⟨⟨i, rfl, hi⟩, b1⟩)
  go_ret
  exact ⟨by rw [← hi]; rfl, b1⟩

end Go.Proofs.Ytcfoieaejpdleaa
