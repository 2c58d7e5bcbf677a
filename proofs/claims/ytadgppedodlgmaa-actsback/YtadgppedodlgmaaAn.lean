import Derived.Test.YtadgppedodlgmaaAb
import Derived.Test.YtadgppedodlgmaaOz
import Derived.Deep.RegionHeld3
import Derived.Deep.RegionWith
import Derived.Deep.MidRow
import Derived.Deep.Cut
namespace Go.Proofs.Ytadgppedodlgmaa
open Go Go.RowKit
set_option linter.unusedVariables false
set_option linter.unusedSimpArgs false

/-- the number of two, of four bytes -/
def be2 (l : List Int) (i : Nat) : Int := if i + 2 ≤ l.length then l.getD i 0 * 256 + l.getD (i + 1) 0 else 0
def be4 (l : List Int) (i : Nat) : Int := if i + 4 ≤ l.length then ((l.getD i 0 * 256 + l.getD (i + 1) 0) * 256 + l.getD (i + 2) 0) * 256 + l.getD (i + 3) 0 else 0
def nzB (l : List Int) : Bool := l.any (fun z => decide (z ≠ 0))
theorem isB_getD {l : List Int} (h : isB l) (i : Nat) : 0 ≤ l.getD i 0 ∧ l.getD i 0 ≤ 255 := by
  by_cases hi : i < l.length
  · have e : l.getD i 0 = l[i] := by simp [List.getD, hi]
    rw [e]
    exact h _ (List.getElem_mem hi)
  · have e : l.getD i 0 = 0 := by simp [List.getD, Nat.le_of_not_lt hi]
    rw [e]; omega
theorem be2_range {l : List Int} (h : isB l) (i : Nat) : 0 ≤ be2 l i ∧ be2 l i ≤ 65535 := by
  have h0 := isB_getD h i
  have h1 := isB_getD h (i + 1)
  unfold be2
  split <;> omega
theorem be4_range {l : List Int} (h : isB l) (i : Nat) : 0 ≤ be4 l i ∧ be4 l i ≤ 4294967295 := by
  have h0 := isB_getD h i
  have h1 := isB_getD h (i + 1)
  have h2 := isB_getD h (i + 2)
  have h3 := isB_getD h (i + 3)
  unfold be4
  split <;> omega
theorem bytes_mid {w : World} {ao : Option Addr} {n cap : Nat} {l : List Int} (h : Bytes w (.slice ao n cap) l) (s e : Nat) (hs : s ≤ e) (he : e ≤ l.length) :
    ∃ ao', (∀ wx, (Instr.slice 24 (.slice ao n cap) (some (.int .i64 (s : Int))) (some (.int .i64 (e : Int))) none).run Try.prog wx = .ok (.slice ao' (e - s) (cap - s)) wx) ∧ Bytes w (.slice ao' (e - s) (cap - s)) ((l.take e).drop s) := by
  obtain ⟨a, c, e0, h1, h2, h3, h4, h5⟩ := h
  cases e0
  refine ⟨if cap = s then ao else ao.map (·.add s), fun wx => ?_, ?_⟩
  · rw [run_slice_lh wx 24 ao l.length cap u51 .i64 .i64 (s : Int) (e : Int) (by omega) (by omega) (by omega), sz51]
    simp [sliced]
  · refine ⟨(if cap = s then ao else ao.map (·.add s)), cap - s, by simp only [List.length_drop, List.length_take, Nat.min_eq_left he], by simp only [List.length_drop, List.length_take, Nat.min_eq_left he]; omega, by omega, fun z hz => h3 z (List.mem_of_mem_take (List.mem_of_mem_drop hz)), fun hn => ?_, fun ad hd j z hz => ?_⟩
    · split at hn
      · omega
      · cases ao with
        | none => have := h4 rfl; omega
        | some a => cases hn
    · rw [List.getElem?_drop, List.getElem?_take] at hz
      split at hz
      · split at hd
        · rename_i hc
          have : s + j < l.length := (List.getElem?_eq_some_iff.1 hz).1
          omega
        · cases ao with
          | none => cases hd
          | some a =>
            simp at hd
            subst hd
            rw [Addr.add_add]
            exact h5 a rfl _ _ hz
      · cases hz
theorem getD_some {l : List Int} {i : Nat} (h : i < l.length) : l[i]? = some (l.getD i 0) := by simp [List.getD, h]
theorem nget2 (v : Value) (l : List Int) (i : Nat) (w : World) (hB : Bytes w v l) (hi : i ≤ 100000) :
    Calls Try.prog 72 #[v, .int .i64 (i : Int), .int .i64 2] w fun e w' => ∃ er, e = .returned (.tuple #[.int .i64 (be2 l i), .int .i64 er]) ∧ Below w.heap.size w w' := by
  obtain ⟨ao, cap, rfl, h1, h2, h3, h4, h5⟩ := hB
  have hB : Bytes w (.slice ao l.length cap) l := ⟨ao, cap, rfl, h1, h2, h3, h4, h5⟩
  by_cases hi2 : i + 2 ≤ l.length
  · obtain ⟨-, -, -, hat⟩ := Bytes.at hB
    obtain ⟨b, off, rfl, c0⟩ := hat i _ (getD_some (by omega))
    obtain ⟨b1, off1, e1, c1⟩ := hat (i + 1) _ (getD_some (by omega))
    cases e1
    have e : be2 l i = l.getD i 0 * 256 + l.getD (i + 1) 0 := if_pos hi2
    rw [e]
    exact (get_ok2 b off l.length cap i (l.getD i 0) (l.getD (i + 1) 0) w (isB_getD h3 i) (isB_getD h3 (i + 1)) hi2 h1 h2 c0 c1).mono fun e w' h => ⟨0, h.1, h.2⟩
  · have e : be2 l i = 0 := if_neg hi2
    rw [e]
    exact (get_short ao l.length cap (i : Int) 2 w (by omega) (by decide) (by omega) (by omega)).mono fun e w' h => ⟨3, h.1, h.2 ▸ Below.refl _ _⟩
theorem nget4 (v : Value) (l : List Int) (i : Nat) (w : World) (hB : Bytes w v l) (hi : i ≤ 100000) :
    Calls Try.prog 72 #[v, .int .i64 (i : Int), .int .i64 4] w fun e w' => ∃ er, e = .returned (.tuple #[.int .i64 (be4 l i), .int .i64 er]) ∧ Below w.heap.size w w' := by
  obtain ⟨ao, cap, rfl, h1, h2, h3, h4, h5⟩ := hB
  have hB : Bytes w (.slice ao l.length cap) l := ⟨ao, cap, rfl, h1, h2, h3, h4, h5⟩
  by_cases hi2 : i + 4 ≤ l.length
  · obtain ⟨-, -, -, hat⟩ := Bytes.at hB
    obtain ⟨b, off, rfl, c0⟩ := hat i _ (getD_some (by omega))
    obtain ⟨b1, off1, e1, c1⟩ := hat (i + 1) _ (getD_some (by omega))
    cases e1
    obtain ⟨b2, off2, e2, c2⟩ := hat (i + 2) _ (getD_some (by omega))
    cases e2
    obtain ⟨b3, off3, e3, c3⟩ := hat (i + 3) _ (getD_some (by omega))
    cases e3
    have e : be4 l i = ((l.getD i 0 * 256 + l.getD (i + 1) 0) * 256 + l.getD (i + 2) 0) * 256 + l.getD (i + 3) 0 := if_pos hi2
    rw [e]
    exact (get_ok4 b off l.length cap i (l.getD i 0) (l.getD (i + 1) 0) (l.getD (i + 2) 0) (l.getD (i + 3) 0) w (isB_getD h3 i) (isB_getD h3 (i + 1)) (isB_getD h3 (i + 2)) (isB_getD h3 (i + 3)) hi2 h1 h2 c0 c1 c2 c3).mono fun e w' h => ⟨0, h.1, h.2⟩
  · have e : be4 l i = 0 := if_neg hi2
    rw [e]
    exact (get_short ao l.length cap (i : Int) 4 w (by omega) (by decide) (by omega) (by omega)).mono fun e w' h => ⟨3, h.1, h.2 ▸ Below.refl _ _⟩
theorem rnget2 (v : Value) (l : List Int) (i : Nat) (w : World) (hB : Bytes w v l) (hi : i ≤ 100000) :
    Calls Try.prog 80 #[v, .int .i64 (i : Int), .int .i64 2] w fun e w' => ∃ er, e = .returned (.tuple #[.int .i64 (be2 l i), .int .i64 er]) ∧ w = w' := by
  obtain ⟨ao, cap, rfl, h1, h2, h3, h4, h5⟩ := hB
  have hB : Bytes w (.slice ao l.length cap) l := ⟨ao, cap, rfl, h1, h2, h3, h4, h5⟩
  by_cases hi2 : i + 2 ≤ l.length
  · obtain ⟨-, -, -, hat⟩ := Bytes.at hB
    obtain ⟨b, off, rfl, c0⟩ := hat i _ (getD_some (by omega))
    obtain ⟨b1, off1, e1, c1⟩ := hat (i + 1) _ (getD_some (by omega))
    cases e1
    have e : be2 l i = l.getD i 0 * 256 + l.getD (i + 1) 0 := if_pos hi2
    rw [e]
    exact (rget_ok2 b off l.length cap i (l.getD i 0) (l.getD (i + 1) 0) w (isB_getD h3 i) (isB_getD h3 (i + 1)) hi2 h1 h2 c0 c1).mono fun e w' h => ⟨0, h.1, h.2⟩
  · have e : be2 l i = 0 := if_neg hi2
    rw [e]
    exact (rget_short ao l.length cap (i : Int) 2 w (by omega) (by decide) (by omega) (by omega)).mono fun e w' h => ⟨3, h.1, h.2⟩
theorem rnget4 (v : Value) (l : List Int) (i : Nat) (w : World) (hB : Bytes w v l) (hi : i ≤ 100000) :
    Calls Try.prog 80 #[v, .int .i64 (i : Int), .int .i64 4] w fun e w' => ∃ er, e = .returned (.tuple #[.int .i64 (be4 l i), .int .i64 er]) ∧ w = w' := by
  obtain ⟨ao, cap, rfl, h1, h2, h3, h4, h5⟩ := hB
  have hB : Bytes w (.slice ao l.length cap) l := ⟨ao, cap, rfl, h1, h2, h3, h4, h5⟩
  by_cases hi2 : i + 4 ≤ l.length
  · obtain ⟨-, -, -, hat⟩ := Bytes.at hB
    obtain ⟨b, off, rfl, c0⟩ := hat i _ (getD_some (by omega))
    obtain ⟨b1, off1, e1, c1⟩ := hat (i + 1) _ (getD_some (by omega))
    cases e1
    obtain ⟨b2, off2, e2, c2⟩ := hat (i + 2) _ (getD_some (by omega))
    cases e2
    obtain ⟨b3, off3, e3, c3⟩ := hat (i + 3) _ (getD_some (by omega))
    cases e3
    have e : be4 l i = ((l.getD i 0 * 256 + l.getD (i + 1) 0) * 256 + l.getD (i + 2) 0) * 256 + l.getD (i + 3) 0 := if_pos hi2
    rw [e]
    exact (rget_ok4 b off l.length cap i (l.getD i 0) (l.getD (i + 1) 0) (l.getD (i + 2) 0) (l.getD (i + 3) 0) w (isB_getD h3 i) (isB_getD h3 (i + 1)) (isB_getD h3 (i + 2)) (isB_getD h3 (i + 3)) hi2 h1 h2 c0 c1 c2 c3).mono fun e w' h => ⟨0, h.1, h.2⟩
  · have e : be4 l i = 0 := if_neg hi2
    rw [e]
    exact (rget_short ao l.length cap (i : Int) 4 w (by omega) (by decide) (by omega) (by omega)).mono fun e w' h => ⟨3, h.1, h.2⟩
set_option maxRecDepth 100000 in
set_option maxHeartbeats 4000000 in
theorem clo_any (z : Int) (w : World) :
    Calls Try.prog 50 #[.int .u8 z] w fun e w' => e = .returned (.bool (z != 0)) ∧ w' = w := by
  go_enter Try.func50, Try.ntmps50
  go_wp2_with fail
  go_ret
  exact ⟨rfl, rfl⟩

set_option maxRecDepth 100000 in
set_option maxHeartbeats 4000000 in
theorem idx_any (v : Value) (l : List Int) (w : World) (hB : Bytes w v l) :
    Calls Try.prog 75 #[v, (.func (.func 50) #[] #[])] w fun e w' => (∃ i : Int, e = .returned (.int .i64 i) ∧ (decide (0 ≤ i)) = nzB l) ∧ Below w.heap.size w w' := by
  obtain ⟨ao, cap, rfl, h1, h2, h3, h4, h5⟩ := hB
  have hB : Bytes w (.slice ao l.length cap) l := ⟨ao, cap, rfl, h1, h2, h3, h4, h5⟩
  obtain ⟨-, -, -, hat⟩ := Bytes.at hB
  have H := hide_ hat
  have hm : l.length ≤ 9223372036854775807 := by unfold maxLen at h2; omega
  clear hat hB h1 h2 h3 h4 h5
  go_enter Try.func75, Try.ntmps75
  go_wp2
  go_loopw [5, 8] (fun _ i wr => ∃ k : Nat, k ≤ l.length ∧ i = .int .i64 k ∧ Hid (nzB (l.take k) = false) ∧ Below w.heap.size w wr) (fun _ i _ => l.length - (intOf i).toNat)
  case atStart => exact ⟨0, Nat.zero_le _, rfl, rfl, Below.refl _ _⟩
  case round =>
    obtain ⟨k, hk, rfl, HT, hb⟩ := hrel
    by_cases hlt : k < l.length
    · obtain ⟨z, hz⟩ : ∃ z, l[k]? = some z := ⟨_, List.getElem?_eq_getElem hlt⟩
      obtain ⟨b, off, rfl, c1⟩ := H.out k z hz
      have c1 := cell_later hb c1
      have HZ := hide_ hz
      clear hz
      have hlt' : (k : Int) < (l.length : Int) := by omega
      by_cases h0 : z = 0
      · subst h0
        go_wp2_with (go_at_call 50; refine (clo_any _ _).mono ?_; rintro e w' ⟨rfl, rfl⟩)
        go_roundw
        case rel => exact ⟨k + 1, by omega, by go_num, by show _ = _; rw [List.take_add_one, HZ.out]; unfold nzB at *; rw [List.any_append, HT.out]; rfl, hb⟩
        case measure => simp [intOf]; omega
      · have hne : (z != 0) = true := by simpa using h0
        have H0 := hide_ h0
        clear h0
        go_wp2_with (go_at_call 50; refine (clo_any _ _).mono ?_; rintro e w' ⟨rfl, rfl⟩)
        go_ret
        refine ⟨⟨_, rfl, ?_⟩, hb⟩
        have e1 : nzB l = true := by
          unfold nzB
          rw [List.any_eq_true]
          exact ⟨z, List.mem_of_getElem? HZ.out, by simpa using H0.out⟩
        rw [e1]
        simp
    · have hlt' : ¬ (k : Int) < (l.length : Int) := by omega
      go_wp2
      go_ret
      refine ⟨⟨_, rfl, ?_⟩, hb⟩
      have e := HT.out
      rw [List.take_of_length_le (by omega)] at e
      rw [e]
      rfl

set_option maxRecDepth 100000 in
set_option maxHeartbeats 4000000 in
theorem cont_any (v : Value) (l : List Int) (w : World) (hB : Bytes w v l) :
    Calls Try.prog 49 #[v, (.func (.func 50) #[] #[])] w fun e w' => e = .returned (.bool (nzB l)) ∧ Below w.heap.size w w' := by
  have q := hide_ (idx_any v l w hB)
  generalize nzB l = z at *
  clear hB
  go_enter Try.func49, Try.ntmps49
  go_wp2_with (go_at_call 75; refine q.out.mono ?_; rintro e w1 ⟨⟨i, rfl, hi⟩, b1⟩)
  go_ret
  exact ⟨by rw [← hi]; rfl, b1⟩

set_option maxRecDepth 100000 in
set_option maxHeartbeats 4000000 in
theorem nought_any (v : Value) (l : List Int) (w : World) (hB : Bytes w v l) :
    Calls Try.prog 57 #[v] w fun e w' => e = .returned (.bool (!nzB l)) ∧ Below w.heap.size w w' := by
  obtain ⟨ao, cap, rfl, h1, h2, h3, h4, h5⟩ := hB
  have hB : Bytes w (.slice ao l.length cap) l := ⟨ao, cap, rfl, h1, h2, h3, h4, h5⟩
  obtain ⟨-, -, -, hat⟩ := Bytes.at hB
  have H := hide_ hat
  have hm : l.length ≤ 9223372036854775807 := by unfold maxLen at h2; omega
  clear hat hB h1 h2 h3 h4 h5
  go_enter Try.func57, Try.ntmps57
  go_wp2
  go_loopw [3] (fun i wr => ∃ k : Nat, k ≤ l.length ∧ i = .int .i64 k ∧ Hid (nzB (l.take k) = false) ∧ Below w.heap.size w wr) (fun i _ => l.length - (intOf i).toNat)
  case atStart => exact ⟨0, Nat.zero_le _, rfl, rfl, Below.refl _ _⟩
  case round =>
    obtain ⟨k, hk, rfl, HT, hb⟩ := hrel
    by_cases hlt : k < l.length
    · obtain ⟨z, hz⟩ : ∃ z, l[k]? = some z := ⟨_, List.getElem?_eq_getElem hlt⟩
      obtain ⟨b, off, rfl, c1⟩ := H.out k z hz
      have c1 := cell_later hb c1
      have HZ := hide_ hz
      clear hz
      have hlt' : (k : Int) < (l.length : Int) := by omega
      by_cases h0 : z = 0
      · subst h0
        go_wp2
        go_roundw
        case rel => exact ⟨k + 1, by omega, by go_num, by show _ = _; rw [List.take_add_one, HZ.out]; unfold nzB at *; rw [List.any_append, HT.out]; rfl, hb⟩
        case measure => simp [intOf]; omega
      · have hne : (z != 0) = true := by simpa using h0
        have H0 := hide_ h0
        clear h0
        go_wp2
        go_ret
        have e1 : nzB l = true := by
          unfold nzB
          rw [List.any_eq_true]
          exact ⟨z, List.mem_of_getElem? HZ.out, by simpa using H0.out⟩
        rw [e1]
        exact ⟨rfl, hb⟩
    · have hlt' : ¬ (k : Int) < (l.length : Int) := by omega
      go_wp2
      go_ret
      have e := HT.out
      rw [List.take_of_length_le (by omega)] at e
      rw [e]
      exact ⟨rfl, hb⟩

set_option maxRecDepth 100000 in
set_option maxHeartbeats 4000000 in
theorem known_any (k : Int) (w : World) :
    Calls Try.prog 55 #[.int .i64 k] w fun e w' => e = .returned (.bool (decide (k = 0 ∨ k = 22 ∨ k = 17 ∨ k = 18 ∨ k = 25))) ∧ w' = w := by
  by_cases h0 : k = 0
  · subst h0
    go_enter Try.func55, Try.ntmps55
    go_wp2_with fail
    go_ret
    exact ⟨by simp, rfl⟩
  have g0 : (k == 0) = false := by simpa using h0
  by_cases h22 : k = 22
  · subst h22
    go_enter Try.func55, Try.ntmps55
    go_wp2_with fail
    go_ret
    exact ⟨by simp, rfl⟩
  have g1 : (k == 22) = false := by simpa using h22
  by_cases h17 : k = 17
  · subst h17
    go_enter Try.func55, Try.ntmps55
    go_wp2_with fail
    go_ret
    exact ⟨by simp, rfl⟩
  have g2 : (k == 17) = false := by simpa using h17
  by_cases h18 : k = 18
  · subst h18
    go_enter Try.func55, Try.ntmps55
    go_wp2_with fail
    go_ret
    exact ⟨by simp, rfl⟩
  have g3 : (k == 18) = false := by simpa using h18
  go_enter Try.func55, Try.ntmps55
  go_wp2_with fail
  go_ret
  exact ⟨congrArg (fun z => Ending.returned (Value.bool z)) (by rw [Bool.eq_iff_iff]; simp [h0, h22, h17, h18]), rfl⟩

set_option maxRecDepth 100000 in
set_option maxHeartbeats 4000000 in
theorem rnum2 (v : Value) (l : List Int) (i : Nat) (w : World) (hB : Bytes w v l) (hi : i ≤ 100000) :
    Calls Try.prog 54 #[v, .int .i64 (i : Int), .int .i64 2] w fun e w' => e = .returned (.int .i64 (be2 l i)) ∧ w' = w := by
  have q := hide_ (rnget2 v l i w hB hi)
  generalize be2 l i = z at *
  clear hB
  go_enter Try.func54, Try.ntmps54
  go_wp2_with (go_at_call 80; refine q.out.mono ?_; rintro e w' ⟨er, rfl, rfl⟩)
  go_ret
  exact ⟨rfl, rfl⟩

set_option maxRecDepth 100000 in
set_option maxHeartbeats 4000000 in
theorem rnum4 (v : Value) (l : List Int) (i : Nat) (w : World) (hB : Bytes w v l) (hi : i ≤ 100000) :
    Calls Try.prog 54 #[v, .int .i64 (i : Int), .int .i64 4] w fun e w' => e = .returned (.int .i64 (be4 l i)) ∧ w' = w := by
  have q := hide_ (rnget4 v l i w hB hi)
  generalize be4 l i = z at *
  clear hB
  go_enter Try.func54, Try.ntmps54
  go_wp2_with (go_at_call 80; refine q.out.mono ?_; rintro e w' ⟨er, rfl, rfl⟩)
  go_ret
  exact ⟨rfl, rfl⟩


end Go.Proofs.Ytadgppedodlgmaa
