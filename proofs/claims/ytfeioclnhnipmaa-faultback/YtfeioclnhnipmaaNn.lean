import Derived.Test.YtfeioclnhnipmaaProg
import Derived.Test.YtfeioclnhnipmaaC
import Derived.Test.YtfeioclnhnipmaaD
import Derived.Test.YtfeioclnhnipmaaG
import Derived.Test.YtfeioclnhnipmaaH
import Derived.Test.YtfeioclnhnipmaaM
import Derived.Test.YtfeioclnhnipmaaHm
import Derived.Test.YtfeioclnhnipmaaGa
import Derived.WalkKit
import Derived.WalkSpells
import Derived.WalkLawsBesides
import Derived.Below
import Derived.Handy
namespace Go.Proofs.Ytfeioclnhnipmaa
open Go Go.RowKit
set_option linter.unusedVariables false
set_option linter.unusedSimpArgs false

def be2 (l : List Int) (i : Nat) : Int := if i + 2 ≤ l.length then l.getD i 0 * 256 + l.getD (i + 1) 0 else 0
def be4 (l : List Int) (i : Nat) : Int := if i + 4 ≤ l.length then ((l.getD i 0 * 256 + l.getD (i + 1) 0) * 256 + l.getD (i + 2) 0) * 256 + l.getD (i + 3) 0 else 0
def nzB (l : List Int) : Bool := l.any (fun z => decide (z ≠ 0))
theorem isB_getD {l : List Int} (h : isB l) (i : Nat) : 0 ≤ l.getD i 0 ∧ l.getD i 0 ≤ 255 := by
  by_cases hi : i < l.length
  · have e : l.getD i 0 = l[i] := by simp [List.getD, hi]
    rw [e]
    exact h _ (List.getElem_mem hi)
  · have e : l.getD i 0 = 0 := by simp [List.getD, Nat.le_of_not_lt hi]
    rw [e]; omega
theorem be2_range {l : List Int} (h : isB l) (i : Nat) : 0 ≤ be2 l i ∧ be2 l i ≤ 65535 := by
  have h0 := isB_getD h i
  have h1 := isB_getD h (i + 1)
  unfold be2
  split <;> omega
theorem be4_range {l : List Int} (h : isB l) (i : Nat) : 0 ≤ be4 l i ∧ be4 l i ≤ 4294967295 := by
  have h0 := isB_getD h i
  have h1 := isB_getD h (i + 1)
  have h2 := isB_getD h (i + 2)
  have h3 := isB_getD h (i + 3)
  unfold be4
  split <;> omega
theorem bytes_mid {w : World} {ao : Option Addr} {n cap : Nat} {l : List Int} (h : Bytes w (.slice ao n cap) l) (s e : Nat) (hs : s ≤ e) (he : e ≤ l.length) :
    ∃ ao', (∀ wx, (Instr.slice 24 (.slice ao n cap) (some (.int .i64 (s : Int))) (some (.int .i64 (e : Int))) none).run Try.prog wx = .ok (.slice ao' (e - s) (cap - s)) wx) ∧ Bytes w (.slice ao' (e - s) (cap - s)) ((l.take e).drop s) := by
  obtain ⟨a, c, e0, h1, h2, h3, h4, h5⟩ := h
  cases e0
  refine ⟨if cap = s then ao else ao.map (·.add s), fun wx => ?_, ?_⟩
  · rw [run_slice_lh wx 24 ao l.length cap u51 .i64 .i64 (s : Int) (e : Int) (by omega) (by omega) (by omega), sz51]
    simp [sliced]
  · refine ⟨(if cap = s then ao else ao.map (·.add s)), cap - s, by simp only [List.length_drop, List.length_take, Nat.min_eq_left he], by simp only [List.length_drop, List.length_take, Nat.min_eq_left he]; omega, by omega, fun z hz => h3 z (List.mem_of_mem_take (List.mem_of_mem_drop hz)), fun hn => ?_, fun ad hd j z hz => ?_⟩
    · split at hn
      · omega
      · cases ao with
        | none => have := h4 rfl; omega
        | some a => cases hn
    · rw [List.getElem?_drop, List.getElem?_take] at hz
      split at hz
      · split at hd
        · rename_i hc
          have : s + j < l.length := (List.getElem?_eq_some_iff.1 hz).1
          omega
        · cases ao with
          | none => cases hd
          | some a =>
            simp at hd
            subst hd
            rw [Addr.add_add]
            exact h5 a rfl _ _ hz
      · cases hz
theorem getD_some {l : List Int} {i : Nat} (h : i < l.length) : l[i]? = some (l.getD i 0) := by simp [List.getD, h]
theorem nget2 (v : Value) (l : List Int) (i : Nat) (w : World) (hB : Bytes w v l) (hi : i ≤ 100000) :
    Calls Try.prog 18 #[v, .int .i64 (i : Int), .int .i64 2] w fun e w' => ∃ er, e = .returned (.tuple #[.int .i64 (be2 l i), .int .i64 er]) ∧ Below w.heap.size w w' := by
  obtain ⟨ao, cap, rfl, h1, h2, h3, h4, h5⟩ := hB
  have hB : Bytes w (.slice ao l.length cap) l := ⟨ao, cap, rfl, h1, h2, h3, h4, h5⟩
  by_cases hi2 : i + 2 ≤ l.length
  · obtain ⟨-, -, -, hat⟩ := Bytes.at hB
    obtain ⟨b, off, rfl, c0⟩ := hat i _ (getD_some (by omega))
    obtain ⟨b1, off1, e1, c1⟩ := hat (i + 1) _ (getD_some (by omega))
    cases e1
    have e : be2 l i = l.getD i 0 * 256 + l.getD (i + 1) 0 := if_pos hi2
    rw [e]
    exact (get_ok2 b off l.length cap i (l.getD i 0) (l.getD (i + 1) 0) w (isB_getD h3 i) (isB_getD h3 (i + 1)) hi2 h1 h2 c0 c1).mono fun e w' h => ⟨0, h.1, h.2⟩
  · have e : be2 l i = 0 := if_neg hi2
    rw [e]
    exact (get_short ao l.length cap (i : Int) 2 w (by omega) (by decide) (by omega) (by omega)).mono fun e w' h => ⟨3, h.1, h.2 ▸ Below.refl _ _⟩
theorem nget4 (v : Value) (l : List Int) (i : Nat) (w : World) (hB : Bytes w v l) (hi : i ≤ 100000) :
    Calls Try.prog 18 #[v, .int .i64 (i : Int), .int .i64 4] w fun e w' => ∃ er, e = .returned (.tuple #[.int .i64 (be4 l i), .int .i64 er]) ∧ Below w.heap.size w w' := by
  obtain ⟨ao, cap, rfl, h1, h2, h3, h4, h5⟩ := hB
  have hB : Bytes w (.slice ao l.length cap) l := ⟨ao, cap, rfl, h1, h2, h3, h4, h5⟩
  by_cases hi2 : i + 4 ≤ l.length
  · obtain ⟨-, -, -, hat⟩ := Bytes.at hB
    obtain ⟨b, off, rfl, c0⟩ := hat i _ (getD_some (by omega))
    obtain ⟨b1, off1, e1, c1⟩ := hat (i + 1) _ (getD_some (by omega))
    cases e1
    obtain ⟨b2, off2, e2, c2⟩ := hat (i + 2) _ (getD_some (by omega))
    cases e2
    obtain ⟨b3, off3, e3, c3⟩ := hat (i + 3) _ (getD_some (by omega))
    cases e3
    have e : be4 l i = ((l.getD i 0 * 256 + l.getD (i + 1) 0) * 256 + l.getD (i + 2) 0) * 256 + l.getD (i + 3) 0 := if_pos hi2
    rw [e]
    exact (get_ok4 b off l.length cap i (l.getD i 0) (l.getD (i + 1) 0) (l.getD (i + 2) 0) (l.getD (i + 3) 0) w (isB_getD h3 i) (isB_getD h3 (i + 1)) (isB_getD h3 (i + 2)) (isB_getD h3 (i + 3)) hi2 h1 h2 c0 c1 c2 c3).mono fun e w' h => ⟨0, h.1, h.2⟩
  · have e : be4 l i = 0 := if_neg hi2
    rw [e]
    exact (get_short ao l.length cap (i : Int) 4 w (by omega) (by decide) (by omega) (by omega)).mono fun e w' h => ⟨3, h.1, h.2 ▸ Below.refl _ _⟩
theorem AB.at0 (w : World) (t : TypeId) (cs : List Value) : AB (w.alloc (.cells cs.toArray t)) w.heap.size t cs := AB.new w t cs
theorem AB.at1 (w : World) (o : Obj) (t : TypeId) (cs : List Value) : AB ((w.alloc o).alloc (.cells cs.toArray t)) (w.heap.size + 1) t cs := by
  have := AB.new (w.alloc o) t cs
  simpa using this
theorem below1 (w : World) (o : Obj) : Below w.heap.size w (w.alloc o) := (Below.refl _ _).alloc (Nat.le_refl _) _
theorem below2 (w : World) (o o' : Obj) : Below w.heap.size w ((w.alloc o).alloc o') := (below1 w o).alloc (by simp) _
theorem add_zero_addr (a : Addr) : a.add 0 = a := by
  obtain ⟨b, o, p⟩ := a
  cases p <;> simp [Addr.add]
theorem bytes_take {w : World} {ao : Option Addr} {n cap : Nat} {l : List Int} (h : Bytes w (.slice ao n cap) l) (s : Nat) (hs : s ≤ l.length) :
    (∀ wx, (Instr.sliceAt 24 (.slice ao n cap) none (some (.int .i64 (s : Int))) none).run Try.prog wx = .ok (.slice ao s cap) wx) ∧
      (∀ wx, (Instr.slice 24 (.slice ao n cap) none (some (.int .i64 (s : Int))) none).run Try.prog wx = .ok (.slice ao s cap) wx) ∧ Bytes w (.slice ao s cap) (l.take s) := by
  obtain ⟨a, c, e, h1, h2, h3, h4, h5⟩ := h
  cases e
  have r2 : ∀ wx, (Instr.slice 24 (.slice ao l.length cap) none (some (.int .i64 (s : Int))) none).run Try.prog wx = .ok (.slice ao s cap) wx := by
    intro wx
    rw [run_slice_h wx 24 ao l.length cap u51 .i64 (s : Int) (by omega) (by omega), sz51]
    have : ao.map (fun x => x.add 0) = ao := by cases ao <;> simp [add_zero_addr]
    simp [sliced, this]
  refine ⟨fun wx => ?_, r2, ?_⟩
  · rw [run_sliceAt_slice wx 24 _ _ _ _ u51]; exact r2 wx
  · have hl : (l.take s).length = s := by simp; omega
    refine ⟨ao, cap, by rw [hl], by omega, h2, fun z hz => h3 z (List.mem_of_mem_take hz), h4, fun ad he j z hz => ?_⟩
    rw [List.getElem?_take] at hz
    split at hz
    · exact h5 ad he j z hz
    · cases hz
/-- b[:n:n] -/
theorem bytes_taken {w : World} {ao : Option Addr} {n cap : Nat} {l : List Int} (h : Bytes w (.slice ao n cap) l) (s : Nat) (hs : s ≤ l.length) :
    (∀ wx, (Instr.slice 24 (.slice ao n cap) none (some (.int .i64 (s : Int))) (some (.int .i64 (s : Int)))).run Try.prog wx = .ok (.slice ao s s) wx) ∧ Bytes w (.slice ao s s) (l.take s) := by
  obtain ⟨a, c, e, h1, h2, h3, h4, h5⟩ := h
  cases e
  refine ⟨fun wx => ?_, ?_⟩
  · rw [run_slice_hm wx 24 ao l.length cap u51 .i64 .i64 (s : Int) (s : Int) (by omega) (by omega) (by omega), sz51]
    have : ao.map (fun x => x.add 0) = ao := by cases ao <;> simp [add_zero_addr]
    simp [sliced, this]
  · have hl : (l.take s).length = s := by simp; omega
    refine ⟨ao, s, by rw [hl], by omega, by omega, fun z hz => h3 z (List.mem_of_mem_take hz), fun hn => ?_, fun ad he j z hz => ?_⟩
    · have := h4 hn; omega
    · rw [List.getElem?_take] at hz
      split at hz
      · exact h5 ad he j z hz
      · cases hz
end Go.Proofs.Ytfeioclnhnipmaa
