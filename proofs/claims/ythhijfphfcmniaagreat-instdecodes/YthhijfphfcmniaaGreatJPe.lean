import Derived.Test.YthhijfphfcmniaaGreatAae
import Derived.Test.YthhijfphfcmniaaGreatOze
import Derived.Test.YthhijfphfcmniaaGreatAce
import Derived.Test.YthhijfphfcmniaaGreatOge
import Derived.Test.YthhijfphfcmniaaGreatOoe
import Derived.Test.YthhijfphfcmniaaGreatOye
import Derived.Test.YthhijfphfcmniaaGreatAee
import Derived.Deep.RegionHeld3
import Derived.Deep.RegionWith
import Derived.Deep.MidRow
import Derived.Deep.Cut
set_option maxRecDepth 100000
set_option maxHeartbeats 8000000
set_option linter.unusedVariables false
set_option linter.unusedSimpArgs false
set_option linter.defProp false
namespace Go.Proofs.YthhijfphfcmniaaGreat
section
open Go Go.RowKit
def pjpe0 (w : World) := h_ ((AB.at0 w 61 [.int .i64 0, .int .i64 0, .int .i64 0, .int .i64 0, .int .i64 0, .int .i64 0, .bool false, .int .u64 0, .int .u64 0, .int .u64 0, .int .u64 0]).alloc (.cells #[.bool false, .int .i64 0, .int .i64 0] 44))
def pjpe1 (w : World) := h_ (AB.at1 w (.cells #[.int .i64 0, .int .i64 0, .int .i64 0, .int .i64 0, .int .i64 0, .int .i64 0, .bool false, .int .u64 0, .int .u64 0, .int .u64 0, .int .u64 0] 61) 44 [.bool false, .int .i64 0, .int .i64 0])
def pjpe2 (w : World) := h_ (below2 w (.cells #[.int .i64 0, .int .i64 0, .int .i64 0, .int .i64 0, .int .i64 0, .int .i64 0, .bool false, .int .u64 0, .int .u64 0, .int .u64 0, .int .u64 0] 61) (.cells #[.bool false, .int .i64 0, .int .i64 0] 44))
theorem pjpe3 (w : World) : w.heap.size + 1 < ((w.alloc (.cells #[.int .i64 0, .int .i64 0, .int .i64 0, .int .i64 0, .int .i64 0, .int .i64 0, .bool false, .int .u64 0, .int .u64 0, .int .u64 0, .int .u64 0] 61)).alloc (.cells #[.bool false, .int .i64 0, .int .i64 0] 44)).heap.size := by simp
def be2 (l : List Int) (i : Nat) : Int := if i + 2 ≤ l.length then l.getD i 0 * 256 + l.getD (i + 1) 0 else 0
def be4 (l : List Int) (i : Nat) : Int := if i + 4 ≤ l.length then ((l.getD i 0 * 256 + l.getD (i + 1) 0) * 256 + l.getD (i + 2) 0) * 256 + l.getD (i + 3) 0 else 0
def nzB (l : List Int) : Bool := l.any (fun z => decide (z ≠ 0))
theorem isB_getD {l : List Int} (h : isB l) (i : Nat) : 0 ≤ l.getD i 0 ∧ l.getD i 0 ≤ 255 := by
  by_cases hi : i < l.length
  · have e : l.getD i 0 = l[i] := by simp [List.getD, hi]
    rw [e]
    exact h _ (List.getElem_mem hi)
  · have e : l.getD i 0 = 0 := by simp [List.getD, Nat.le_of_not_lt hi]
    rw [e]; omega
theorem be2_range {l : List Int} (h : isB l) (i : Nat) : 0 ≤ be2 l i ∧ be2 l i ≤ 65535 := by
  have h0 := isB_getD h i
  have h1 := isB_getD h (i + 1)
  unfold be2
  split <;> omega
theorem be4_range {l : List Int} (h : isB l) (i : Nat) : 0 ≤ be4 l i ∧ be4 l i ≤ 4294967295 := by
  have h0 := isB_getD h i
  have h1 := isB_getD h (i + 1)
  have h2 := isB_getD h (i + 2)
  have h3 := isB_getD h (i + 3)
  unfold be4
  split <;> omega
theorem bytes_mid {w : World} {ao : Option Addr} {n cap : Nat} {l : List Int} (h : Bytes w (.slice ao n cap) l) (s e : Nat) (hs : s ≤ e) (he : e ≤ l.length) :
    ∃ ao', (∀ wx, (Instr.slice 25 (.slice ao n cap) (some (.int .i64 (s : Int))) (some (.int .i64 (e : Int))) none).run Tryz.prog wx = .ok (.slice ao' (e - s) (cap - s)) wx) ∧ Bytes w (.slice ao' (e - s) (cap - s)) ((l.take e).drop s) := by
  obtain ⟨a, c, e0, h1, h2, h3, h4, h5⟩ := h
  cases e0
  refine ⟨if cap = s then ao else ao.map (·.add s), fun wx => ?_, ?_⟩
  · rw [run_slice_lh wx 25 ao l.length cap u51 .i64 .i64 (s : Int) (e : Int) (by omega) (by omega) (by omega), sz51]
    simp [sliced]
  · refine ⟨(if cap = s then ao else ao.map (·.add s)), cap - s, by simp only [List.length_drop, List.length_take, Nat.min_eq_left he], by simp only [List.length_drop, List.length_take, Nat.min_eq_left he]; omega, by omega, fun z hz => h3 z (List.mem_of_mem_take (List.mem_of_mem_drop hz)), fun hn => ?_, fun ad hd j z hz => ?_⟩
    · split at hn
      · omega
      · cases ao with
        | none => have := h4 rfl; omega
        | some a => cases hn
    · rw [List.getElem?_drop, List.getElem?_take] at hz
      split at hz
      · split at hd
        · rename_i hc
          have : s + j < l.length := (List.getElem?_eq_some_iff.1 hz).1
          omega
        · cases ao with
          | none => cases hd
          | some a =>
            simp at hd
            subst hd
            rw [Addr.add_add]
            exact h5 a rfl _ _ hz
      · cases hz
theorem getD_some {l : List Int} {i : Nat} (h : i < l.length) : l[i]? = some (l.getD i 0) := by simp [List.getD, h]
theorem nget2 (v : Value) (l : List Int) (i : Nat) (w : World) (hB : Bytes w v l) (hi : i ≤ 100000) :
    Calls Tryz.prog 89 #[v, .int .i64 (i : Int), .int .i64 2] w fun e w' => ∃ er, e = .returned (.tuple #[.int .i64 (be2 l i), .int .i64 er]) ∧ Below w.heap.size w w' := by
  obtain ⟨ao, cap, rfl, h1, h2, h3, h4, h5⟩ := hB
  have hB : Bytes w (.slice ao l.length cap) l := ⟨ao, cap, rfl, h1, h2, h3, h4, h5⟩
  by_cases hi2 : i + 2 ≤ l.length
  · obtain ⟨-, -, -, hat⟩ := Bytes.at hB
    obtain ⟨b, off, rfl, c0⟩ := hat i _ (getD_some (by omega))
    obtain ⟨b1, off1, e1, c1⟩ := hat (i + 1) _ (getD_some (by omega))
    cases e1
    have e : be2 l i = l.getD i 0 * 256 + l.getD (i + 1) 0 := if_pos hi2
    rw [e]
    exact (get_ok2 b off l.length cap i (l.getD i 0) (l.getD (i + 1) 0) w (isB_getD h3 i) (isB_getD h3 (i + 1)) hi2 h1 h2 c0 c1).mono fun e w' h => ⟨0, h.1, h.2⟩
  · have e : be2 l i = 0 := if_neg hi2
    rw [e]
    exact (get_short ao l.length cap (i : Int) 2 w (by omega) (by decide) (by omega) (by omega)).mono fun e w' h => ⟨3, h.1, h.2 ▸ Below.refl _ _⟩
theorem nget4 (v : Value) (l : List Int) (i : Nat) (w : World) (hB : Bytes w v l) (hi : i ≤ 100000) :
    Calls Tryz.prog 89 #[v, .int .i64 (i : Int), .int .i64 4] w fun e w' => ∃ er, e = .returned (.tuple #[.int .i64 (be4 l i), .int .i64 er]) ∧ Below w.heap.size w w' := by
  obtain ⟨ao, cap, rfl, h1, h2, h3, h4, h5⟩ := hB
  have hB : Bytes w (.slice ao l.length cap) l := ⟨ao, cap, rfl, h1, h2, h3, h4, h5⟩
  by_cases hi2 : i + 4 ≤ l.length
  · obtain ⟨-, -, -, hat⟩ := Bytes.at hB
    obtain ⟨b, off, rfl, c0⟩ := hat i _ (getD_some (by omega))
    obtain ⟨b1, off1, e1, c1⟩ := hat (i + 1) _ (getD_some (by omega))
    cases e1
    obtain ⟨b2, off2, e2, c2⟩ := hat (i + 2) _ (getD_some (by omega))
    cases e2
    obtain ⟨b3, off3, e3, c3⟩ := hat (i + 3) _ (getD_some (by omega))
    cases e3
    have e : be4 l i = ((l.getD i 0 * 256 + l.getD (i + 1) 0) * 256 + l.getD (i + 2) 0) * 256 + l.getD (i + 3) 0 := if_pos hi2
    rw [e]
    exact (get_ok4 b off l.length cap i (l.getD i 0) (l.getD (i + 1) 0) (l.getD (i + 2) 0) (l.getD (i + 3) 0) w (isB_getD h3 i) (isB_getD h3 (i + 1)) (isB_getD h3 (i + 2)) (isB_getD h3 (i + 3)) hi2 h1 h2 c0 c1 c2 c3).mono fun e w' h => ⟨0, h.1, h.2⟩
  · have e : be4 l i = 0 := if_neg hi2
    rw [e]
    exact (get_short ao l.length cap (i : Int) 4 w (by omega) (by decide) (by omega) (by omega)).mono fun e w' h => ⟨3, h.1, h.2 ▸ Below.refl _ _⟩
theorem rnget2 (v : Value) (l : List Int) (i : Nat) (w : World) (hB : Bytes w v l) (hi : i ≤ 100000) :
    Calls Tryz.prog 55 #[v, .int .i64 (i : Int), .int .i64 2] w fun e w' => ∃ er, e = .returned (.tuple #[.int .i64 (be2 l i), .int .i64 er]) ∧ w = w' := by
  obtain ⟨ao, cap, rfl, h1, h2, h3, h4, h5⟩ := hB
  have hB : Bytes w (.slice ao l.length cap) l := ⟨ao, cap, rfl, h1, h2, h3, h4, h5⟩
  by_cases hi2 : i + 2 ≤ l.length
  · obtain ⟨-, -, -, hat⟩ := Bytes.at hB
    obtain ⟨b, off, rfl, c0⟩ := hat i _ (getD_some (by omega))
    obtain ⟨b1, off1, e1, c1⟩ := hat (i + 1) _ (getD_some (by omega))
    cases e1
    have e : be2 l i = l.getD i 0 * 256 + l.getD (i + 1) 0 := if_pos hi2
    rw [e]
    exact (rget_ok2 b off l.length cap i (l.getD i 0) (l.getD (i + 1) 0) w (isB_getD h3 i) (isB_getD h3 (i + 1)) hi2 h1 h2 c0 c1).mono fun e w' h => ⟨0, h.1, h.2⟩
  · have e : be2 l i = 0 := if_neg hi2
    rw [e]
    exact (rget_short ao l.length cap (i : Int) 2 w (by omega) (by decide) (by omega) (by omega)).mono fun e w' h => ⟨3, h.1, h.2⟩
theorem rnget4 (v : Value) (l : List Int) (i : Nat) (w : World) (hB : Bytes w v l) (hi : i ≤ 100000) :
    Calls Tryz.prog 55 #[v, .int .i64 (i : Int), .int .i64 4] w fun e w' => ∃ er, e = .returned (.tuple #[.int .i64 (be4 l i), .int .i64 er]) ∧ w = w' := by
  obtain ⟨ao, cap, rfl, h1, h2, h3, h4, h5⟩ := hB
  have hB : Bytes w (.slice ao l.length cap) l := ⟨ao, cap, rfl, h1, h2, h3, h4, h5⟩
  by_cases hi2 : i + 4 ≤ l.length
  · obtain ⟨-, -, -, hat⟩ := Bytes.at hB
    obtain ⟨b, off, rfl, c0⟩ := hat i _ (getD_some (by omega))
    obtain ⟨b1, off1, e1, c1⟩ := hat (i + 1) _ (getD_some (by omega))
    cases e1
    obtain ⟨b2, off2, e2, c2⟩ := hat (i + 2) _ (getD_some (by omega))
    cases e2
    obtain ⟨b3, off3, e3, c3⟩ := hat (i + 3) _ (getD_some (by omega))
    cases e3
    have e : be4 l i = ((l.getD i 0 * 256 + l.getD (i + 1) 0) * 256 + l.getD (i + 2) 0) * 256 + l.getD (i + 3) 0 := if_pos hi2
    rw [e]
    exact (rget_ok4 b off l.length cap i (l.getD i 0) (l.getD (i + 1) 0) (l.getD (i + 2) 0) (l.getD (i + 3) 0) w (isB_getD h3 i) (isB_getD h3 (i + 1)) (isB_getD h3 (i + 2)) (isB_getD h3 (i + 3)) hi2 h1 h2 c0 c1 c2 c3).mono fun e w' h => ⟨0, h.1, h.2⟩
  · have e : be4 l i = 0 := if_neg hi2
    rw [e]
    exact (rget_short ao l.length cap (i : Int) 4 w (by omega) (by decide) (by omega) (by omega)).mono fun e w' h => ⟨3, h.1, h.2⟩
theorem clo_any (z : Int) (w : World) :
    Calls Tryz.prog 144 #[.int .u8 z] w fun e w' => e = .returned (.bool (z != 0)) ∧ w' = w := by
  go_enter Tryz.func144, Tryz.ntmps144
  go_wp2_with fail
  go_ret
  exact ⟨rfl, rfl⟩
theorem idx_any (v : Value) (l : List Int) (w : World) (hB : Bytes w v l) :
    Calls Tryz.prog 141 #[v, (.func (.func 144) #[] #[])] w fun e w' => (∃ i : Int, e = .returned (.int .i64 i) ∧ (decide (0 ≤ i)) = nzB l) ∧ Below w.heap.size w w' := by
  obtain ⟨ao, cap, rfl, h1, h2, h3, h4, h5⟩ := hB
  have hB : Bytes w (.slice ao l.length cap) l := ⟨ao, cap, rfl, h1, h2, h3, h4, h5⟩
  obtain ⟨-, -, -, hat⟩ := Bytes.at hB
  have H := h_ hat
  have hm : l.length ≤ 9223372036854775807 := by unfold maxLen at h2; omega
  clear hat hB h1 h2 h3 h4 h5
  go_enter Tryz.func141, Tryz.ntmps141
  go_wp2
  go_loopw [5, 8] (fun _ i wr => ∃ k : Nat, k ≤ l.length ∧ i = .int .i64 k ∧ Hid (nzB (l.take k) = false) ∧ Below w.heap.size w wr) (fun _ i _ => l.length - (intOf i).toNat)
  case atStart => exact ⟨0, Nat.zero_le _, rfl, rfl, Below.refl _ _⟩
  case round =>
    obtain ⟨k, hk, rfl, HT, hb⟩ := hrel
    by_cases hlt : k < l.length
    · obtain ⟨z, hz⟩ : ∃ z, l[k]? = some z := ⟨_, List.getElem?_eq_getElem hlt⟩
      obtain ⟨b, off, rfl, c1⟩ := H.out k z hz
      have c1 := cell_later hb c1
      have HZ := h_ hz
      clear hz
      have hlt' : (k : Int) < (l.length : Int) := by omega
      by_cases h0 : z = 0
      · subst h0
        go_wp2_with (go_at_call 144; refine (clo_any _ _).mono ?_; rintro e w' ⟨rfl, rfl⟩)
        go_roundw
        case rel => exact ⟨k + 1, by omega, by go_num, by show _ = _; rw [List.take_add_one, HZ.out]; unfold nzB at *; rw [List.any_append, HT.out]; rfl, hb⟩
        case measure => simp [intOf]; omega
      · have hne : (z != 0) = true := by simpa using h0
        have H0 := h_ h0
        clear h0
        go_wp2_with (go_at_call 144; refine (clo_any _ _).mono ?_; rintro e w' ⟨rfl, rfl⟩)
        go_ret
        refine ⟨⟨_, rfl, ?_⟩, hb⟩
        have e1 : nzB l = true := by
          unfold nzB
          rw [List.any_eq_true]
          exact ⟨z, List.mem_of_getElem? HZ.out, by simpa using H0.out⟩
        rw [e1]
        simp
    · have hlt' : ¬ (k : Int) < (l.length : Int) := by omega
      go_wp2
      go_ret
      refine ⟨⟨_, rfl, ?_⟩, hb⟩
      have e := HT.out
      rw [List.take_of_length_le (by omega)] at e
      rw [e]
      rfl
theorem cont_any (v : Value) (l : List Int) (w : World) (hB : Bytes w v l) :
    Calls Tryz.prog 121 #[v, (.func (.func 144) #[] #[])] w fun e w' => e = .returned (.bool (nzB l)) ∧ Below w.heap.size w w' := by
  have q := h_ (idx_any v l w hB)
  generalize nzB l = z at *
  clear hB
  go_enter Tryz.func121, Tryz.ntmps121
  go_wp2_with (go_at_call 141; refine q.out.mono ?_; rintro e w1 ⟨⟨i, rfl, hi⟩, b1⟩)
  go_ret
  exact ⟨by rw [← hi]; rfl, b1⟩
theorem nought_any (v : Value) (l : List Int) (w : World) (hB : Bytes w v l) :
    Calls Tryz.prog 150 #[v] w fun e w' => e = .returned (.bool (!nzB l)) ∧ Below w.heap.size w w' := by
  obtain ⟨ao, cap, rfl, h1, h2, h3, h4, h5⟩ := hB
  have hB : Bytes w (.slice ao l.length cap) l := ⟨ao, cap, rfl, h1, h2, h3, h4, h5⟩
  obtain ⟨-, -, -, hat⟩ := Bytes.at hB
  have H := h_ hat
  have hm : l.length ≤ 9223372036854775807 := by unfold maxLen at h2; omega
  clear hat hB h1 h2 h3 h4 h5
  go_enter Tryz.func150, Tryz.ntmps150
  go_wp2
  go_loopw [3] (fun i wr => ∃ k : Nat, k ≤ l.length ∧ i = .int .i64 k ∧ Hid (nzB (l.take k) = false) ∧ Below w.heap.size w wr) (fun i _ => l.length - (intOf i).toNat)
  case atStart => exact ⟨0, Nat.zero_le _, rfl, rfl, Below.refl _ _⟩
  case round =>
    obtain ⟨k, hk, rfl, HT, hb⟩ := hrel
    by_cases hlt : k < l.length
    · obtain ⟨z, hz⟩ : ∃ z, l[k]? = some z := ⟨_, List.getElem?_eq_getElem hlt⟩
      obtain ⟨b, off, rfl, c1⟩ := H.out k z hz
      have c1 := cell_later hb c1
      have HZ := h_ hz
      clear hz
      have hlt' : (k : Int) < (l.length : Int) := by omega
      by_cases h0 : z = 0
      · subst h0
        go_wp2
        go_roundw
        case rel => exact ⟨k + 1, by omega, by go_num, by show _ = _; rw [List.take_add_one, HZ.out]; unfold nzB at *; rw [List.any_append, HT.out]; rfl, hb⟩
        case measure => simp [intOf]; omega
      · have hne : (z != 0) = true := by simpa using h0
        have H0 := h_ h0
        clear h0
        go_wp2
        go_ret
        have e1 : nzB l = true := by
          unfold nzB
          rw [List.any_eq_true]
          exact ⟨z, List.mem_of_getElem? HZ.out, by simpa using H0.out⟩
        rw [e1]
        exact ⟨rfl, hb⟩
    · have hlt' : ¬ (k : Int) < (l.length : Int) := by omega
      go_wp2
      go_ret
      have e := HT.out
      rw [List.take_of_length_le (by omega)] at e
      rw [e]
      exact ⟨rfl, hb⟩
theorem known_any (k : Int) (w : World) :
    Calls Tryz.prog 148 #[.int .i64 k] w fun e w' => e = .returned (.bool (decide (k = 0 ∨ k = 22 ∨ k = 17 ∨ k = 18 ∨ k = 25))) ∧ w' = w := by
  by_cases h0 : k = 0
  · subst h0
    go_enter Tryz.func148, Tryz.ntmps148
    go_wp2_with fail
    go_ret
    exact ⟨by simp, rfl⟩
  have g0 : (k == 0) = false := by simpa using h0
  by_cases h22 : k = 22
  · subst h22
    go_enter Tryz.func148, Tryz.ntmps148
    go_wp2_with fail
    go_ret
    exact ⟨by simp, rfl⟩
  have g1 : (k == 22) = false := by simpa using h22
  by_cases h17 : k = 17
  · subst h17
    go_enter Tryz.func148, Tryz.ntmps148
    go_wp2_with fail
    go_ret
    exact ⟨by simp, rfl⟩
  have g2 : (k == 17) = false := by simpa using h17
  by_cases h18 : k = 18
  · subst h18
    go_enter Tryz.func148, Tryz.ntmps148
    go_wp2_with fail
    go_ret
    exact ⟨by simp, rfl⟩
  have g3 : (k == 18) = false := by simpa using h18
  go_enter Tryz.func148, Tryz.ntmps148
  go_wp2_with fail
  go_ret
  exact ⟨congrArg (fun z => Ending.returned (Value.bool z)) (by rw [Bool.eq_iff_iff]; simp [h0, h22, h17, h18]), rfl⟩
theorem rnum2 (v : Value) (l : List Int) (i : Nat) (w : World) (hB : Bytes w v l) (hi : i ≤ 100000) :
    Calls Tryz.prog 147 #[v, .int .i64 (i : Int), .int .i64 2] w fun e w' => e = .returned (.int .i64 (be2 l i)) ∧ w' = w := by
  have q := h_ (rnget2 v l i w hB hi)
  generalize be2 l i = z at *
  clear hB
  go_enter Tryz.func147, Tryz.ntmps147
  go_wp2_with (go_at_call 55; refine q.out.mono ?_; rintro e w' ⟨er, rfl, rfl⟩)
  go_ret
  exact ⟨rfl, rfl⟩
theorem rnum4 (v : Value) (l : List Int) (i : Nat) (w : World) (hB : Bytes w v l) (hi : i ≤ 100000) :
    Calls Tryz.prog 147 #[v, .int .i64 (i : Int), .int .i64 4] w fun e w' => e = .returned (.int .i64 (be4 l i)) ∧ w' = w := by
  have q := h_ (rnget4 v l i w hB hi)
  generalize be4 l i = z at *
  clear hB
  go_enter Tryz.func147, Tryz.ntmps147
  go_wp2_with (go_at_call 55; refine q.out.mono ?_; rintro e w' ⟨er, rfl, rfl⟩)
  go_ret
  exact ⟨rfl, rfl⟩
theorem r8_mod (n : Nat) : (r8 n = n) ↔ n % 8 = 0 := by unfold r8; omega
theorem rlen_a (ao : Option Addr) (cap : Nat) (l : List Int) (w : World) (hB : Bytes w (.slice ao l.length cap) l) (h : l.length < 8) :
    Calls Tryz.prog 142 #[.slice ao l.length cap] w fun e w' => e = .returned (.tuple #[.int .i64 0, .agg #[.bool true, .int .i64 2, .int .i64 1]]) ∧ Below w.heap.size w w' := by
  have F0 := h_ (AB.at0 w 44 [.bool false, .int .i64 0, .int .i64 0])
  have B0 := h_ (below1 w (.cells #[.bool false, .int .i64 0, .int .i64 0] 44))
  have qr := h_ (fun w => refuse2_any 1 w)
  unfold fv at qr
  have qg := h_ (fun W hW => nget2 _ l 2 W (hB.later (w' := W) hW) (by omega))
  have hm := hmC hB
  have hz := (be2_range (Bytes.isB_ hB) 2)
  have h' : (l.length : Int) < 8 := by omega
  clear hB
  generalize be2 l 2 = z at *
  generalize l.length = n at *
  go_enter Tryz.func142, Tryz.ntmps142
  go_wp2_with (first  | (go_at_call 145; refine (qr.out _).mono ?_; rintro e w5 ⟨rfl, b5⟩; have k5 := b5; obtain ⟨s0, s1, s2, s3, s4, s5⟩ := (F0.out.later k5).three; obtain ⟨u0, u1, u2, -⟩ := ((F0.out.later k5).set3 (.bool true) (.int .i64 2) (.int .i64 1)).three; have bb := below_set3 (g := w.heap.size) (B0.out.trans (k5.mono B0.out.size)) (Nat.le_refl _) (.bool true) (.int .i64 2) (.int .i64 1)))
  exact bodyPost_ret (v := .tuple #[.int .i64 0, .agg #[.bool true, .int .i64 2, .int .i64 1]]) (by simp [results, Tryz.results142, go_sem, u0, u1, u2]) rfl ⟨rfl, bb⟩
theorem rlen_b (ao : Option Addr) (cap : Nat) (l : List Int) (w : World) (hB : Bytes w (.slice ao l.length cap) l) (h : ¬ l.length < 8) (h2 : be2 l 2 < 8) :
    Calls Tryz.prog 142 #[.slice ao l.length cap] w fun e w' => e = .returned (.tuple #[.int .i64 0, .agg #[.bool true, .int .i64 2, .int .i64 1]]) ∧ Below w.heap.size w w' := by
  have F0 := h_ (AB.at0 w 44 [.bool false, .int .i64 0, .int .i64 0])
  have B0 := h_ (below1 w (.cells #[.bool false, .int .i64 0, .int .i64 0] 44))
  have qr := h_ (fun w => refuse2_any 1 w)
  unfold fv at qr
  have qg := h_ (fun W hW => nget2 _ l 2 W (hB.later (w' := W) hW) (by omega))
  have hm := hmC hB
  have hz := (be2_range (Bytes.isB_ hB) 2)
  have h' : ¬ (l.length : Int) < 8 := by omega
  clear hB
  generalize be2 l 2 = z at *
  generalize l.length = n at *
  go_enter Tryz.func142, Tryz.ntmps142
  go_wp2_with (first  | (go_at_call 89; refine (qg.out _ B0.out).mono ?_; rintro e w1 ⟨er, rfl, b1⟩; obtain ⟨s0, s1, s2, s3, s4, s5⟩ := (F0.out.later b1).three; obtain ⟨u0, u1, u2, -⟩ := ((F0.out.later b1).set3 (.bool false) (.int .i64 0) (.int .i64 0)).three; have bb := below_set3 (g := w.heap.size) (B0.out.trans (b1.mono B0.out.size)) (Nat.le_refl _) (.bool false) (.int .i64 0) (.int .i64 0)) | (go_at_call 145; refine (qr.out _).mono ?_; rintro e w5 ⟨rfl, b5⟩; have k5 := b1.trans (b5.mono b1.size); obtain ⟨s0, s1, s2, s3, s4, s5⟩ := (F0.out.later k5).three; obtain ⟨u0, u1, u2, -⟩ := ((F0.out.later k5).set3 (.bool true) (.int .i64 2) (.int .i64 1)).three; have bb := below_set3 (g := w.heap.size) (B0.out.trans (k5.mono B0.out.size)) (Nat.le_refl _) (.bool true) (.int .i64 2) (.int .i64 1)))
  exact bodyPost_ret (v := .tuple #[.int .i64 0, .agg #[.bool true, .int .i64 2, .int .i64 1]]) (by simp [results, Tryz.results142, go_sem, u0, u1, u2]) rfl ⟨rfl, bb⟩
theorem rlen_c (ao : Option Addr) (cap : Nat) (l : List Int) (w : World) (hB : Bytes w (.slice ao l.length cap) l) (h : ¬ l.length < 8) (h2 : ¬ be2 l 2 < 8) (h3 : ¬ be2 l 2 % 8 = 0) :
    Calls Tryz.prog 142 #[.slice ao l.length cap] w fun e w' => e = .returned (.tuple #[.int .i64 0, .agg #[.bool true, .int .i64 2, .int .i64 1]]) ∧ Below w.heap.size w w' := by
  have F0 := h_ (AB.at0 w 44 [.bool false, .int .i64 0, .int .i64 0])
  have B0 := h_ (below1 w (.cells #[.bool false, .int .i64 0, .int .i64 0] 44))
  have qr := h_ (fun w => refuse2_any 1 w)
  unfold fv at qr
  have qg := h_ (fun W hW => nget2 _ l 2 W (hB.later (w' := W) hW) (by omega))
  have hm := hmC hB
  have hz := (be2_range (Bytes.isB_ hB) 2)
  have h' : ¬ (l.length : Int) < 8 := by omega
  obtain ⟨N, hN⟩ : ∃ N : Nat, be2 l 2 = (N : Int) := ⟨(be2 l 2).toNat, by omega⟩
  have qo := h_ (fun w => round_any N w (by omega))
  have h4 : ((N : Int) != ((r8 N : Nat) : Int)) = true := by simp; have := r8_mod N; omega
  have h5 : (((N : Int) == ((r8 N : Nat) : Int))) = false := by simp; have := r8_mod N; omega
  generalize r8 N = NN at *
  clear hB
  generalize be2 l 2 = z at *
  subst hN
  generalize l.length = n at *
  go_enter Tryz.func142, Tryz.ntmps142
  go_wp2_with (first  | (go_at_call 89; refine (qg.out _ B0.out).mono ?_; rintro e w1 ⟨er, rfl, b1⟩; obtain ⟨s0, s1, s2, s3, s4, s5⟩ := (F0.out.later b1).three; obtain ⟨u0, u1, u2, -⟩ := ((F0.out.later b1).set3 (.bool false) (.int .i64 0) (.int .i64 0)).three; have bb := below_set3 (g := w.heap.size) (B0.out.trans (b1.mono B0.out.size)) (Nat.le_refl _) (.bool false) (.int .i64 0) (.int .i64 0)) | (go_at_call 117; refine (qo.out _).mono ?_; rintro e w' ⟨rfl, rfl⟩) | (go_at_call 145; refine (qr.out _).mono ?_; rintro e w5 ⟨rfl, b5⟩; have k5 := b1.trans (b5.mono b1.size); obtain ⟨s0, s1, s2, s3, s4, s5⟩ := (F0.out.later k5).three; obtain ⟨u0, u1, u2, -⟩ := ((F0.out.later k5).set3 (.bool true) (.int .i64 2) (.int .i64 1)).three; have bb := below_set3 (g := w.heap.size) (B0.out.trans (k5.mono B0.out.size)) (Nat.le_refl _) (.bool true) (.int .i64 2) (.int .i64 1)))
  exact bodyPost_ret (v := .tuple #[.int .i64 0, .agg #[.bool true, .int .i64 2, .int .i64 1]]) (by simp [results, Tryz.results142, go_sem, u0, u1, u2]) rfl ⟨rfl, bb⟩
theorem rlen_d (ao : Option Addr) (cap : Nat) (l : List Int) (w : World) (hB : Bytes w (.slice ao l.length cap) l) (h : ¬ l.length < 8) (h2 : ¬ be2 l 2 < 8) (h3 : be2 l 2 % 8 = 0) (h6 : ¬ be2 l 2 ≤ l.length) :
    Calls Tryz.prog 142 #[.slice ao l.length cap] w fun e w' => e = .returned (.tuple #[.int .i64 0, .agg #[.bool true, .int .i64 2, .int .i64 1]]) ∧ Below w.heap.size w w' := by
  have F0 := h_ (AB.at0 w 44 [.bool false, .int .i64 0, .int .i64 0])
  have B0 := h_ (below1 w (.cells #[.bool false, .int .i64 0, .int .i64 0] 44))
  have qr := h_ (fun w => refuse2_any 1 w)
  unfold fv at qr
  have qg := h_ (fun W hW => nget2 _ l 2 W (hB.later (w' := W) hW) (by omega))
  have hm := hmC hB
  have hz := (be2_range (Bytes.isB_ hB) 2)
  have h' : ¬ (l.length : Int) < 8 := by omega
  obtain ⟨N, hN⟩ : ∃ N : Nat, be2 l 2 = (N : Int) := ⟨(be2 l 2).toNat, by omega⟩
  have qo := h_ (fun w => round_any N w (by omega))
  have h4 : r8 N = N := (r8_mod N).2 (by omega)
  rw [h4] at qo
  clear h4
  have h7 : (l.length : Int) < (N : Int) := by omega
  clear hB
  generalize be2 l 2 = z at *
  subst hN
  generalize l.length = n at *
  go_enter Tryz.func142, Tryz.ntmps142
  go_wp2_with (first  | (go_at_call 89; refine (qg.out _ B0.out).mono ?_; rintro e w1 ⟨er, rfl, b1⟩; obtain ⟨s0, s1, s2, s3, s4, s5⟩ := (F0.out.later b1).three; obtain ⟨u0, u1, u2, -⟩ := ((F0.out.later b1).set3 (.bool false) (.int .i64 0) (.int .i64 0)).three; have bb := below_set3 (g := w.heap.size) (B0.out.trans (b1.mono B0.out.size)) (Nat.le_refl _) (.bool false) (.int .i64 0) (.int .i64 0)) | (go_at_call 117; refine (qo.out _).mono ?_; rintro e w' ⟨rfl, rfl⟩) | (go_at_call 145; refine (qr.out _).mono ?_; rintro e w5 ⟨rfl, b5⟩; have k5 := b1.trans (b5.mono b1.size); obtain ⟨s0, s1, s2, s3, s4, s5⟩ := (F0.out.later k5).three; obtain ⟨u0, u1, u2, -⟩ := ((F0.out.later k5).set3 (.bool true) (.int .i64 2) (.int .i64 1)).three; have bb := below_set3 (g := w.heap.size) (B0.out.trans (k5.mono B0.out.size)) (Nat.le_refl _) (.bool true) (.int .i64 2) (.int .i64 1)))
  exact bodyPost_ret (v := .tuple #[.int .i64 0, .agg #[.bool true, .int .i64 2, .int .i64 1]]) (by simp [results, Tryz.results142, go_sem, u0, u1, u2]) rfl ⟨rfl, bb⟩
theorem rlen_e (ao : Option Addr) (cap : Nat) (l : List Int) (w : World) (hB : Bytes w (.slice ao l.length cap) l) (h : ¬ l.length < 8) (h2 : ¬ be2 l 2 < 8) (h3 : be2 l 2 % 8 = 0) (h6 : be2 l 2 ≤ l.length) :
    Calls Tryz.prog 142 #[.slice ao l.length cap] w fun e w' => e = .returned (.tuple #[.int .i64 (be2 l 2), .agg #[.bool false, .int .i64 0, .int .i64 0]]) ∧ Below w.heap.size w w' := by
  have F0 := h_ (AB.at0 w 44 [.bool false, .int .i64 0, .int .i64 0])
  have B0 := h_ (below1 w (.cells #[.bool false, .int .i64 0, .int .i64 0] 44))
  have qr := h_ (fun w => refuse2_any 1 w)
  unfold fv at qr
  have qg := h_ (fun W hW => nget2 _ l 2 W (hB.later (w' := W) hW) (by omega))
  have hm := hmC hB
  have hz := (be2_range (Bytes.isB_ hB) 2)
  have h' : ¬ (l.length : Int) < 8 := by omega
  obtain ⟨N, hN⟩ : ∃ N : Nat, be2 l 2 = (N : Int) := ⟨(be2 l 2).toNat, by omega⟩
  have qo := h_ (fun w => round_any N w (by omega))
  have h4 : r8 N = N := (r8_mod N).2 (by omega)
  rw [h4] at qo
  clear h4
  have h7 : ¬ (l.length : Int) < (N : Int) := by omega
  clear hB
  generalize be2 l 2 = z at *
  subst hN
  generalize l.length = n at *
  go_enter Tryz.func142, Tryz.ntmps142
  go_wp2_with (first  | (go_at_call 89; refine (qg.out _ B0.out).mono ?_; rintro e w1 ⟨er, rfl, b1⟩; obtain ⟨s0, s1, s2, s3, s4, s5⟩ := (F0.out.later b1).three; obtain ⟨u0, u1, u2, -⟩ := ((F0.out.later b1).set3 (.bool false) (.int .i64 0) (.int .i64 0)).three; have bb := below_set3 (g := w.heap.size) (B0.out.trans (b1.mono B0.out.size)) (Nat.le_refl _) (.bool false) (.int .i64 0) (.int .i64 0)) | (go_at_call 117; refine (qo.out _).mono ?_; rintro e w' ⟨rfl, rfl⟩) | (go_at_call 145; refine (qr.out _).mono ?_; rintro e w5 ⟨rfl, b5⟩; have k5 := b1.trans (b5.mono b1.size); obtain ⟨s0, s1, s2, s3, s4, s5⟩ := (F0.out.later k5).three; obtain ⟨u0, u1, u2, -⟩ := ((F0.out.later k5).set3 (.bool true) (.int .i64 2) (.int .i64 1)).three; have bb := below_set3 (g := w.heap.size) (B0.out.trans (k5.mono B0.out.size)) (Nat.le_refl _) (.bool true) (.int .i64 2) (.int .i64 1)))
  exact bodyPost_ret (v := .tuple #[.int .i64 (N : Int), .agg #[.bool false, .int .i64 0, .int .i64 0]]) (by simp [results, Tryz.results142, go_sem, u0, u1, u2]) rfl ⟨rfl, bb⟩
theorem rset_1 (w : World) :
    Calls Tryz.prog 167 #[.agg #[.bool true, .int .i64 4, .int .i64 1]] w fun e w' => e = .returned (.agg #[.bool true, .int .i64 2, .int .i64 14]) ∧ Below w.heap.size w w' := by
  have F0 := h_ (AB.at1 w (.cells #[.bool true, .int .i64 4, .int .i64 1] 44) 44 [.bool false, .int .i64 0, .int .i64 0])
  have B0 := h_ (below2 w (.cells #[.bool true, .int .i64 4, .int .i64 1] 44) (.cells #[.bool false, .int .i64 0, .int .i64 0] 44))
  have qr := h_ (fun k w => refuse2_any k w)
  unfold fv at qr
  go_enter Tryz.func167, Tryz.ntmps167
  go_wp2_with (go_at_call 145; refine (qr.out _ _).mono ?_; rintro e w1 ⟨rfl, b1⟩; obtain ⟨s0, s1, s2, s3, s4, s5⟩ := (F0.out.later b1).three; obtain ⟨u0, u1, u2, -⟩ := ((F0.out.later b1).set3 (.bool true) (.int .i64 2) (.int .i64 14)).three; have bb := below_set3 (g := w.heap.size + 1) (B0.out.trans (b1.mono B0.out.size)) (by omega) (.bool true) (.int .i64 2) (.int .i64 14))
  exact bodyPost_ret (v := .agg #[.bool true, .int .i64 2, .int .i64 14]) (by simp [results, Tryz.results167, go_sem, u0, u1, u2]) rfl ⟨rfl, bb⟩
theorem rset_6 (w : World) :
    Calls Tryz.prog 167 #[.agg #[.bool true, .int .i64 4, .int .i64 6]] w fun e w' => e = .returned (.agg #[.bool true, .int .i64 2, .int .i64 13]) ∧ Below w.heap.size w w' := by
  have F0 := h_ (AB.at1 w (.cells #[.bool true, .int .i64 4, .int .i64 6] 44) 44 [.bool false, .int .i64 0, .int .i64 0])
  have B0 := h_ (below2 w (.cells #[.bool true, .int .i64 4, .int .i64 6] 44) (.cells #[.bool false, .int .i64 0, .int .i64 0] 44))
  have qr := h_ (fun k w => refuse2_any k w)
  unfold fv at qr
  go_enter Tryz.func167, Tryz.ntmps167
  go_wp2_with (go_at_call 145; refine (qr.out _ _).mono ?_; rintro e w1 ⟨rfl, b1⟩; obtain ⟨s0, s1, s2, s3, s4, s5⟩ := (F0.out.later b1).three; obtain ⟨u0, u1, u2, -⟩ := ((F0.out.later b1).set3 (.bool true) (.int .i64 2) (.int .i64 13)).three; have bb := below_set3 (g := w.heap.size + 1) (B0.out.trans (b1.mono B0.out.size)) (by omega) (.bool true) (.int .i64 2) (.int .i64 13))
  exact bodyPost_ret (v := .agg #[.bool true, .int .i64 2, .int .i64 13]) (by simp [results, Tryz.results167, go_sem, u0, u1, u2]) rfl ⟨rfl, bb⟩
theorem rset_z (k : Int) (w : World) (h1 : k ≠ 1) (h6 : k ≠ 6) :
    Calls Tryz.prog 167 #[.agg #[.bool true, .int .i64 4, .int .i64 k]] w fun e w' => e = .returned (.agg #[.bool true, .int .i64 2, .int .i64 15]) ∧ Below w.heap.size w w' := by
  have F0 := h_ (AB.at1 w (.cells #[.bool true, .int .i64 4, .int .i64 k] 44) 44 [.bool false, .int .i64 0, .int .i64 0])
  have B0 := h_ (below2 w (.cells #[.bool true, .int .i64 4, .int .i64 k] 44) (.cells #[.bool false, .int .i64 0, .int .i64 0] 44))
  have qr := h_ (fun k w => refuse2_any k w)
  unfold fv at qr
  go_enter Tryz.func167, Tryz.ntmps167
  go_wp2_with (go_at_call 145; refine (qr.out _ _).mono ?_; rintro e w1 ⟨rfl, b1⟩; obtain ⟨s0, s1, s2, s3, s4, s5⟩ := (F0.out.later b1).three; obtain ⟨u0, u1, u2, -⟩ := ((F0.out.later b1).set3 (.bool true) (.int .i64 2) (.int .i64 15)).three; have bb := below_set3 (g := w.heap.size + 1) (B0.out.trans (b1.mono B0.out.size)) (by omega) (.bool true) (.int .i64 2) (.int .i64 15))
  exact bodyPost_ret (v := .agg #[.bool true, .int .i64 2, .int .i64 15]) (by simp [results, Tryz.results167, go_sem, u0, u1, u2]) rfl ⟨rfl, bb⟩
theorem AB.set5 {w : World} {g : Nat} {ty : TypeId} {c0 c1 c2 c3 c4 c5 c6 c7 c8 c9 c10 : Value} (h : AB w g ty [c0, c1, c2, c3, c4, c5, c6, c7, c8, c9, c10]) (x0 x1 x2 x3 x4 x5 : Value) : AB ((((((w.setCell ⟨g, 5, none⟩ x0).setCell ⟨g, 6, none⟩ x1).setCell ⟨g, 7, none⟩ x2).setCell ⟨g, 8, none⟩ x3).setCell ⟨g, 9, none⟩ x4).setCell ⟨g, 10, none⟩ x5) g ty [c0, c1, c2, c3, c4, x0, x1, x2, x3, x4, x5] := (((((h.set (j := 5) x0).set (j := 6) x1).set (j := 7) x2).set (j := 8) x3).set (j := 9) x4).set (j := 10) x5
theorem below_set5 {w0 w : World} {g n : Nat} (h : Below n w0 w) (hg : n ≤ g) (x0 x1 x2 x3 x4 x5 : Value) : Below n w0 ((((((w.setCell ⟨g, 5, none⟩ x0).setCell ⟨g, 6, none⟩ x1).setCell ⟨g, 7, none⟩ x2).setCell ⟨g, 8, none⟩ x3).setCell ⟨g, 9, none⟩ x4).setCell ⟨g, 10, none⟩ x5) := (((((h.setCell hg x0).setCell hg x1).setCell hg x2).setCell hg x3).setCell hg x4).setCell hg x5
theorem read_0 (ao : Option Addr) (cap : Nat) (l : List Int) (w : World) (hB : Bytes w (.slice ao 16 cap) l) (hk : be2 l 0 = 0) :
    Calls Tryz.prog 143 #[.slice ao 16 cap] w fun e w' => e = .returned (.tuple #[.agg #[.int .i64 0, .int .i64 (be4 l 4), .int .i64 (be2 l 8), .int .i64 0, .int .i64 0, .int .i64 0, .bool false, .int .u64 0, .int .u64 0, .int .u64 0, .int .u64 0], .int .i64 10, .agg #[.bool false, .int .i64 0, .int .i64 0]]) ∧ Below w.heap.size w w' := by
  have R0 := pjpe0 w
  have F0 := pjpe1 w
  have B0 := pjpe2 w
  have q0 := fun W hW => nget2 _ l 0 W (hB.later (w' := W) hW) (by omega)
  rw [hk] at q0
  have q0 := h_ q0
  have hg0 := pjpe3 w
  have hm := hmB hB
  have qr := h_ (fun k w => refuse2_any k w)
  unfold fv at qr
  have q4 := h_ (fun W hW => nget4 _ l 4 W (hB.later (w' := W) hW) (by omega))
  have q8 := h_ (fun W hW => nget2 _ l 8 W (hB.later (w' := W) hW) (by omega))
  have qo : Hid (∀ w, Calls Tryz.prog 117 #[.int .i64 10] w fun e w' => e = .returned (.int .i64 16) ∧ w' = w) := h_ (fun w => round_any 10 w (by omega))
  generalize be4 l 4 = pv at *
  generalize be2 l 8 = xv at *
  clear hB hk
  go_enter Tryz.func143, Tryz.ntmps143
  go_wp2_with (first | (go_at_call_of 89 (Value.int IntKind.i64 0); refine (q0.out _ B0.out).mono ?_; rintro e w1 ⟨er, rfl, k1⟩; have K3 : Below ((w.alloc (.cells #[.int .i64 0, .int .i64 0, .int .i64 0, .int .i64 0, .int .i64 0, .int .i64 0, .bool false, .int .u64 0, .int .u64 0, .int .u64 0, .int .u64 0] 61)).alloc (.cells #[.bool false, .int .i64 0, .int .i64 0] 44)).heap.size ((w.alloc (.cells #[.int .i64 0, .int .i64 0, .int .i64 0, .int .i64 0, .int .i64 0, .int .i64 0, .bool false, .int .u64 0, .int .u64 0, .int .u64 0, .int .u64 0] 61)).alloc (.cells #[.bool false, .int .i64 0, .int .i64 0] 44)) (w1.alloc (.cells #[.int .i64 0, .int .i64 0, .int .i64 0, .int .i64 0, .int .i64 0, .int .i64 0, .bool false, .int .u64 0, .int .u64 0, .int .u64 0, .int .u64 0] 61)) := k1.trans ((below1 w1 _).mono k1.size); have hgw := Nat.lt_of_lt_of_le hg0 k1.size) | (go_at_call_of 89 (Value.int IntKind.i64 4); refine (q4.out _ (B0.out.trans (K3.mono B0.out.size))).mono ?_; rintro e w3 ⟨er3, rfl, b3⟩; obtain ⟨e3c0, e3c1, e3c2, e3c3, e3c4, e3c5, e3c6, e3c7, e3c8, e3c9, e3c10, e3c11, e3c12, e3c13, e3c14, e3c15, e3c16, e3c17, e3c18, e3c19, e3c20, e3c21⟩ := (((AB.at0 w1 61 [.int .i64 0, .int .i64 0, .int .i64 0, .int .i64 0, .int .i64 0, .int .i64 0, .bool false, .int .u64 0, .int .u64 0, .int .u64 0, .int .u64 0])).later b3).eleven; have A3 := (((AB.at0 w1 61 [.int .i64 0, .int .i64 0, .int .i64 0, .int .i64 0, .int .i64 0, .int .i64 0, .bool false, .int .u64 0, .int .u64 0, .int .u64 0, .int .u64 0])).later b3).set (j := 1) (.int .i64 pv); have K4 : Below ((w.alloc (.cells #[.int .i64 0, .int .i64 0, .int .i64 0, .int .i64 0, .int .i64 0, .int .i64 0, .bool false, .int .u64 0, .int .u64 0, .int .u64 0, .int .u64 0] 61)).alloc (.cells #[.bool false, .int .i64 0, .int .i64 0] 44)).heap.size ((w.alloc (.cells #[.int .i64 0, .int .i64 0, .int .i64 0, .int .i64 0, .int .i64 0, .int .i64 0, .bool false, .int .u64 0, .int .u64 0, .int .u64 0, .int .u64 0] 61)).alloc (.cells #[.bool false, .int .i64 0, .int .i64 0] 44)) (w3.setCell ⟨w1.heap.size, 1, none⟩ (.int .i64 pv)) := (K3.trans (b3.mono K3.size)).setCell k1.size _) | (go_at_call_of 89 (Value.int IntKind.i64 8); refine (q8.out _ (B0.out.trans (K4.mono B0.out.size))).mono ?_; rintro e w4 ⟨er4, rfl, b4⟩; obtain ⟨e4c0, e4c1, e4c2, e4c3, e4c4, e4c5, e4c6, e4c7, e4c8, e4c9, e4c10, e4c11, e4c12, e4c13, e4c14, e4c15, e4c16, e4c17, e4c18, e4c19, e4c20, e4c21⟩ := ((A3).later b4).eleven; have A4 := ((A3).later b4).set (j := 2) (.int .i64 xv); have K5 : Below ((w.alloc (.cells #[.int .i64 0, .int .i64 0, .int .i64 0, .int .i64 0, .int .i64 0, .int .i64 0, .bool false, .int .u64 0, .int .u64 0, .int .u64 0, .int .u64 0] 61)).alloc (.cells #[.bool false, .int .i64 0, .int .i64 0] 44)).heap.size ((w.alloc (.cells #[.int .i64 0, .int .i64 0, .int .i64 0, .int .i64 0, .int .i64 0, .int .i64 0, .bool false, .int .u64 0, .int .u64 0, .int .u64 0, .int .u64 0] 61)).alloc (.cells #[.bool false, .int .i64 0, .int .i64 0] 44)) (w4.setCell ⟨w1.heap.size, 2, none⟩ (.int .i64 xv)) := (K4.trans (b4.mono K4.size)).setCell k1.size _; obtain ⟨ac0, ac1, ac2, ac3, ac4, ac5, ac6, ac7, ac8, ac9, ac10, -⟩ := (A4).eleven; obtain ⟨s0, s1, s2, s3, s4, s5, s6, s7, s8, s9, s10, s11, s12, s13, s14, s15, s16, s17, s18, s19, s20, s21⟩ := (R0.out.later K5).eleven; obtain ⟨t0, t1, t2, t3, t4, t5⟩ := ((F0.out.later K5).far11 (h := w.heap.size) (by omega) (.int .i64 0) (.int .i64 pv) (.int .i64 xv) (.int .i64 0) (.int .i64 0) (.int .i64 0) (.bool false) (.int .u64 0) (.int .u64 0) (.int .u64 0) (.int .u64 0)).three; obtain ⟨h0, h1, h2, h3, h4, h5, h6, h7, h8, h9, h10, -⟩ := (((R0.out.later K5).set11 (.int .i64 0) (.int .i64 pv) (.int .i64 xv) (.int .i64 0) (.int .i64 0) (.int .i64 0) (.bool false) (.int .u64 0) (.int .u64 0) (.int .u64 0) (.int .u64 0)).far3 (h := (w.heap.size + 1)) (by omega) (.bool false) (.int .i64 0) (.int .i64 0)).eleven; obtain ⟨h11, h12, h13, -⟩ := (((F0.out.later K5).far11 (h := w.heap.size) (by omega) (.int .i64 0) (.int .i64 pv) (.int .i64 xv) (.int .i64 0) (.int .i64 0) (.int .i64 0) (.bool false) (.int .u64 0) (.int .u64 0) (.int .u64 0) (.int .u64 0)).set3 (.bool false) (.int .i64 0) (.int .i64 0)).three; have bb := below_set3 (g := (w.heap.size + 1)) (below_set11 (g := w.heap.size) (B0.out.trans (K5.mono B0.out.size)) (by omega) (.int .i64 0) (.int .i64 pv) (.int .i64 xv) (.int .i64 0) (.int .i64 0) (.int .i64 0) (.bool false) (.int .u64 0) (.int .u64 0) (.int .u64 0) (.int .u64 0)) (by omega) (.bool false) (.int .i64 0) (.int .i64 0)) | (go_at_call 117; refine (qo.out _).mono ?_; rintro e w' ⟨rfl, rfl⟩))
  exact bodyPost_ret (v := .tuple #[.agg #[.int .i64 0, .int .i64 pv, .int .i64 xv, .int .i64 0, .int .i64 0, .int .i64 0, .bool false, .int .u64 0, .int .u64 0, .int .u64 0, .int .u64 0], .int .i64 10, .agg #[.bool false, .int .i64 0, .int .i64 0]]) (by simp [results, Tryz.results143, go_sem, h0, h1, h2, h3, h4, h5, h6, h7, h8, h9, h10, h11, h12, h13]) rfl ⟨rfl, bb⟩
theorem read_0b (ao : Option Addr) (n : Nat) (cap : Nat) (l : List Int) (w : World) (hB : Bytes w (.slice ao n cap) l) (hk : be2 l 0 = 0) (hn : n ≠ 16) :
    Calls Tryz.prog 143 #[.slice ao n cap] w fun e w' => e = .returned (.tuple #[.agg #[.int .i64 0, .int .i64 0, .int .i64 0, .int .i64 0, .int .i64 0, .int .i64 0, .bool false, .int .u64 0, .int .u64 0, .int .u64 0, .int .u64 0], .int .i64 0, .agg #[.bool true, .int .i64 2, .int .i64 1]]) ∧ Below w.heap.size w w' := by
  have R0 := pjpe0 w
  have F0 := pjpe1 w
  have B0 := pjpe2 w
  have q0 := fun W hW => nget2 _ l 0 W (hB.later (w' := W) hW) (by omega)
  rw [hk] at q0
  have q0 := h_ q0
  have hg0 := pjpe3 w
  have hm := hmB hB
  have qr := h_ (fun k w => refuse2_any k w)
  unfold fv at qr
  have q4 := h_ (fun W hW => nget4 _ l 4 W (hB.later (w' := W) hW) (by omega))
  have q8 := h_ (fun W hW => nget2 _ l 8 W (hB.later (w' := W) hW) (by omega))
  have qo : Hid (∀ w, Calls Tryz.prog 117 #[.int .i64 10] w fun e w' => e = .returned (.int .i64 16) ∧ w' = w) := h_ (fun w => round_any 10 w (by omega))
  have hn' : ((n : Int) != 16) = true := by simp; omega
  have hn2 : ((n : Int) == 16) = false := by simp; omega
  have hn3 : ¬ (n : Int) = 16 := by omega
  generalize be4 l 4 = pv at *
  generalize be2 l 8 = xv at *
  clear hB hk
  go_enter Tryz.func143, Tryz.ntmps143
  go_wp2_with (first | (go_at_call_of 89 (Value.int IntKind.i64 0); refine (q0.out _ B0.out).mono ?_; rintro e w1 ⟨er, rfl, k1⟩; have K3 : Below ((w.alloc (.cells #[.int .i64 0, .int .i64 0, .int .i64 0, .int .i64 0, .int .i64 0, .int .i64 0, .bool false, .int .u64 0, .int .u64 0, .int .u64 0, .int .u64 0] 61)).alloc (.cells #[.bool false, .int .i64 0, .int .i64 0] 44)).heap.size ((w.alloc (.cells #[.int .i64 0, .int .i64 0, .int .i64 0, .int .i64 0, .int .i64 0, .int .i64 0, .bool false, .int .u64 0, .int .u64 0, .int .u64 0, .int .u64 0] 61)).alloc (.cells #[.bool false, .int .i64 0, .int .i64 0] 44)) (w1.alloc (.cells #[.int .i64 0, .int .i64 0, .int .i64 0, .int .i64 0, .int .i64 0, .int .i64 0, .bool false, .int .u64 0, .int .u64 0, .int .u64 0, .int .u64 0] 61)) := k1.trans ((below1 w1 _).mono k1.size); have hgw := Nat.lt_of_lt_of_le hg0 k1.size) | (go_at_call_of 89 (Value.int IntKind.i64 4); refine (q4.out _ (B0.out.trans (K3.mono B0.out.size))).mono ?_; rintro e w3 ⟨er3, rfl, b3⟩; obtain ⟨e3c0, e3c1, e3c2, e3c3, e3c4, e3c5, e3c6, e3c7, e3c8, e3c9, e3c10, e3c11, e3c12, e3c13, e3c14, e3c15, e3c16, e3c17, e3c18, e3c19, e3c20, e3c21⟩ := (((AB.at0 w1 61 [.int .i64 0, .int .i64 0, .int .i64 0, .int .i64 0, .int .i64 0, .int .i64 0, .bool false, .int .u64 0, .int .u64 0, .int .u64 0, .int .u64 0])).later b3).eleven; have A3 := (((AB.at0 w1 61 [.int .i64 0, .int .i64 0, .int .i64 0, .int .i64 0, .int .i64 0, .int .i64 0, .bool false, .int .u64 0, .int .u64 0, .int .u64 0, .int .u64 0])).later b3).set (j := 1) (.int .i64 pv); have K4 : Below ((w.alloc (.cells #[.int .i64 0, .int .i64 0, .int .i64 0, .int .i64 0, .int .i64 0, .int .i64 0, .bool false, .int .u64 0, .int .u64 0, .int .u64 0, .int .u64 0] 61)).alloc (.cells #[.bool false, .int .i64 0, .int .i64 0] 44)).heap.size ((w.alloc (.cells #[.int .i64 0, .int .i64 0, .int .i64 0, .int .i64 0, .int .i64 0, .int .i64 0, .bool false, .int .u64 0, .int .u64 0, .int .u64 0, .int .u64 0] 61)).alloc (.cells #[.bool false, .int .i64 0, .int .i64 0] 44)) (w3.setCell ⟨w1.heap.size, 1, none⟩ (.int .i64 pv)) := (K3.trans (b3.mono K3.size)).setCell k1.size _) | (go_at_call_of 89 (Value.int IntKind.i64 8); refine (q8.out _ (B0.out.trans (K4.mono B0.out.size))).mono ?_; rintro e w4 ⟨er4, rfl, b4⟩; obtain ⟨e4c0, e4c1, e4c2, e4c3, e4c4, e4c5, e4c6, e4c7, e4c8, e4c9, e4c10, e4c11, e4c12, e4c13, e4c14, e4c15, e4c16, e4c17, e4c18, e4c19, e4c20, e4c21⟩ := ((A3).later b4).eleven; have A4 := ((A3).later b4).set (j := 2) (.int .i64 xv); have K5 : Below ((w.alloc (.cells #[.int .i64 0, .int .i64 0, .int .i64 0, .int .i64 0, .int .i64 0, .int .i64 0, .bool false, .int .u64 0, .int .u64 0, .int .u64 0, .int .u64 0] 61)).alloc (.cells #[.bool false, .int .i64 0, .int .i64 0] 44)).heap.size ((w.alloc (.cells #[.int .i64 0, .int .i64 0, .int .i64 0, .int .i64 0, .int .i64 0, .int .i64 0, .bool false, .int .u64 0, .int .u64 0, .int .u64 0, .int .u64 0] 61)).alloc (.cells #[.bool false, .int .i64 0, .int .i64 0] 44)) (w4.setCell ⟨w1.heap.size, 2, none⟩ (.int .i64 xv)) := (K4.trans (b4.mono K4.size)).setCell k1.size _) | (go_at_call 117; refine (qo.out _).mono ?_; rintro e w' ⟨rfl, rfl⟩) | (go_at_call 145; refine (qr.out _ _).mono ?_; rintro e w9 ⟨rfl, b9⟩; have K9 := K5.trans (b9.mono K5.size); obtain ⟨s0, s1, s2, s3, s4, s5, s6, s7, s8, s9, s10, s11, s12, s13, s14, s15, s16, s17, s18, s19, s20, s21⟩ := (R0.out.later K9).eleven; obtain ⟨t0, t1, t2, t3, t4, t5⟩ := ((F0.out.later K9).far11 (h := w.heap.size) (by omega) (.int .i64 0) (.int .i64 0) (.int .i64 0) (.int .i64 0) (.int .i64 0) (.int .i64 0) (.bool false) (.int .u64 0) (.int .u64 0) (.int .u64 0) (.int .u64 0)).three; obtain ⟨h0, h1, h2, h3, h4, h5, h6, h7, h8, h9, h10, -⟩ := (((R0.out.later K9).set11 (.int .i64 0) (.int .i64 0) (.int .i64 0) (.int .i64 0) (.int .i64 0) (.int .i64 0) (.bool false) (.int .u64 0) (.int .u64 0) (.int .u64 0) (.int .u64 0)).far3 (h := (w.heap.size + 1)) (by omega) (.bool true) (.int .i64 2) (.int .i64 1)).eleven; obtain ⟨h11, h12, h13, -⟩ := (((F0.out.later K9).far11 (h := w.heap.size) (by omega) (.int .i64 0) (.int .i64 0) (.int .i64 0) (.int .i64 0) (.int .i64 0) (.int .i64 0) (.bool false) (.int .u64 0) (.int .u64 0) (.int .u64 0) (.int .u64 0)).set3 (.bool true) (.int .i64 2) (.int .i64 1)).three; have bb := below_set3 (g := (w.heap.size + 1)) (below_set11 (g := w.heap.size) (B0.out.trans (K9.mono B0.out.size)) (by omega) (.int .i64 0) (.int .i64 0) (.int .i64 0) (.int .i64 0) (.int .i64 0) (.int .i64 0) (.bool false) (.int .u64 0) (.int .u64 0) (.int .u64 0) (.int .u64 0)) (by omega) (.bool true) (.int .i64 2) (.int .i64 1)))
  exact bodyPost_ret (v := .tuple #[.agg #[.int .i64 0, .int .i64 0, .int .i64 0, .int .i64 0, .int .i64 0, .int .i64 0, .bool false, .int .u64 0, .int .u64 0, .int .u64 0, .int .u64 0], .int .i64 0, .agg #[.bool true, .int .i64 2, .int .i64 1]]) (by simp [results, Tryz.results143, go_sem, h0, h1, h2, h3, h4, h5, h6, h7, h8, h9, h10, h11, h12, h13]) rfl ⟨rfl, bb⟩
theorem read_22 (ao : Option Addr) (cap : Nat) (l : List Int) (w : World) (hB : Bytes w (.slice ao 8 cap) l) (hk : be2 l 0 = 22) :
    Calls Tryz.prog 143 #[.slice ao 8 cap] w fun e w' => e = .returned (.tuple #[.agg #[.int .i64 22, .int .i64 0, .int .i64 0, .int .i64 (be4 l 4), .int .i64 0, .int .i64 0, .bool false, .int .u64 0, .int .u64 0, .int .u64 0, .int .u64 0], .int .i64 8, .agg #[.bool false, .int .i64 0, .int .i64 0]]) ∧ Below w.heap.size w w' := by
  have R0 := pjpe0 w
  have F0 := pjpe1 w
  have B0 := pjpe2 w
  have q0 := fun W hW => nget2 _ l 0 W (hB.later (w' := W) hW) (by omega)
  rw [hk] at q0
  have q0 := h_ q0
  have hg0 := pjpe3 w
  have hm := hmB hB
  have qr := h_ (fun k w => refuse2_any k w)
  unfold fv at qr
  have q4 := h_ (fun W hW => nget4 _ l 4 W (hB.later (w' := W) hW) (by omega))
  have qo : Hid (∀ w, Calls Tryz.prog 117 #[.int .i64 8] w fun e w' => e = .returned (.int .i64 8) ∧ w' = w) := h_ (fun w => round_any 8 w (by omega))
  generalize be4 l 4 = qv at *
  clear hB hk
  go_enter Tryz.func143, Tryz.ntmps143
  go_wp2_with (first | (go_at_call_of 89 (Value.int IntKind.i64 0); refine (q0.out _ B0.out).mono ?_; rintro e w1 ⟨er, rfl, k1⟩; have K3 : Below ((w.alloc (.cells #[.int .i64 0, .int .i64 0, .int .i64 0, .int .i64 0, .int .i64 0, .int .i64 0, .bool false, .int .u64 0, .int .u64 0, .int .u64 0, .int .u64 0] 61)).alloc (.cells #[.bool false, .int .i64 0, .int .i64 0] 44)).heap.size ((w.alloc (.cells #[.int .i64 0, .int .i64 0, .int .i64 0, .int .i64 0, .int .i64 0, .int .i64 0, .bool false, .int .u64 0, .int .u64 0, .int .u64 0, .int .u64 0] 61)).alloc (.cells #[.bool false, .int .i64 0, .int .i64 0] 44)) (w1.alloc (.cells #[.int .i64 22, .int .i64 0, .int .i64 0, .int .i64 0, .int .i64 0, .int .i64 0, .bool false, .int .u64 0, .int .u64 0, .int .u64 0, .int .u64 0] 61)) := k1.trans ((below1 w1 _).mono k1.size); have hgw := Nat.lt_of_lt_of_le hg0 k1.size) | (go_at_call_of 89 (Value.int IntKind.i64 4); refine (q4.out _ (B0.out.trans (K3.mono B0.out.size))).mono ?_; rintro e w3 ⟨er3, rfl, b3⟩; obtain ⟨e3c0, e3c1, e3c2, e3c3, e3c4, e3c5, e3c6, e3c7, e3c8, e3c9, e3c10, e3c11, e3c12, e3c13, e3c14, e3c15, e3c16, e3c17, e3c18, e3c19, e3c20, e3c21⟩ := (((AB.at0 w1 61 [.int .i64 22, .int .i64 0, .int .i64 0, .int .i64 0, .int .i64 0, .int .i64 0, .bool false, .int .u64 0, .int .u64 0, .int .u64 0, .int .u64 0])).later b3).eleven; have A3 := (((AB.at0 w1 61 [.int .i64 22, .int .i64 0, .int .i64 0, .int .i64 0, .int .i64 0, .int .i64 0, .bool false, .int .u64 0, .int .u64 0, .int .u64 0, .int .u64 0])).later b3).set (j := 3) (.int .i64 qv); have K4 : Below ((w.alloc (.cells #[.int .i64 0, .int .i64 0, .int .i64 0, .int .i64 0, .int .i64 0, .int .i64 0, .bool false, .int .u64 0, .int .u64 0, .int .u64 0, .int .u64 0] 61)).alloc (.cells #[.bool false, .int .i64 0, .int .i64 0] 44)).heap.size ((w.alloc (.cells #[.int .i64 0, .int .i64 0, .int .i64 0, .int .i64 0, .int .i64 0, .int .i64 0, .bool false, .int .u64 0, .int .u64 0, .int .u64 0, .int .u64 0] 61)).alloc (.cells #[.bool false, .int .i64 0, .int .i64 0] 44)) (w3.setCell ⟨w1.heap.size, 3, none⟩ (.int .i64 qv)) := (K3.trans (b3.mono K3.size)).setCell k1.size _; obtain ⟨ac0, ac1, ac2, ac3, ac4, ac5, ac6, ac7, ac8, ac9, ac10, -⟩ := (A3).eleven; obtain ⟨s0, s1, s2, s3, s4, s5, s6, s7, s8, s9, s10, s11, s12, s13, s14, s15, s16, s17, s18, s19, s20, s21⟩ := (R0.out.later K4).eleven; obtain ⟨t0, t1, t2, t3, t4, t5⟩ := ((F0.out.later K4).far11 (h := w.heap.size) (by omega) (.int .i64 22) (.int .i64 0) (.int .i64 0) (.int .i64 qv) (.int .i64 0) (.int .i64 0) (.bool false) (.int .u64 0) (.int .u64 0) (.int .u64 0) (.int .u64 0)).three; obtain ⟨h0, h1, h2, h3, h4, h5, h6, h7, h8, h9, h10, -⟩ := (((R0.out.later K4).set11 (.int .i64 22) (.int .i64 0) (.int .i64 0) (.int .i64 qv) (.int .i64 0) (.int .i64 0) (.bool false) (.int .u64 0) (.int .u64 0) (.int .u64 0) (.int .u64 0)).far3 (h := (w.heap.size + 1)) (by omega) (.bool false) (.int .i64 0) (.int .i64 0)).eleven; obtain ⟨h11, h12, h13, -⟩ := (((F0.out.later K4).far11 (h := w.heap.size) (by omega) (.int .i64 22) (.int .i64 0) (.int .i64 0) (.int .i64 qv) (.int .i64 0) (.int .i64 0) (.bool false) (.int .u64 0) (.int .u64 0) (.int .u64 0) (.int .u64 0)).set3 (.bool false) (.int .i64 0) (.int .i64 0)).three; have bb := below_set3 (g := (w.heap.size + 1)) (below_set11 (g := w.heap.size) (B0.out.trans (K4.mono B0.out.size)) (by omega) (.int .i64 22) (.int .i64 0) (.int .i64 0) (.int .i64 qv) (.int .i64 0) (.int .i64 0) (.bool false) (.int .u64 0) (.int .u64 0) (.int .u64 0) (.int .u64 0)) (by omega) (.bool false) (.int .i64 0) (.int .i64 0)) | (go_at_call 117; refine (qo.out _).mono ?_; rintro e w' ⟨rfl, rfl⟩))
  exact bodyPost_ret (v := .tuple #[.agg #[.int .i64 22, .int .i64 0, .int .i64 0, .int .i64 qv, .int .i64 0, .int .i64 0, .bool false, .int .u64 0, .int .u64 0, .int .u64 0, .int .u64 0], .int .i64 8, .agg #[.bool false, .int .i64 0, .int .i64 0]]) (by simp [results, Tryz.results143, go_sem, h0, h1, h2, h3, h4, h5, h6, h7, h8, h9, h10, h11, h12, h13]) rfl ⟨rfl, bb⟩
theorem read_22b (ao : Option Addr) (n : Nat) (cap : Nat) (l : List Int) (w : World) (hB : Bytes w (.slice ao n cap) l) (hk : be2 l 0 = 22) (hn : n ≠ 8) :
    Calls Tryz.prog 143 #[.slice ao n cap] w fun e w' => e = .returned (.tuple #[.agg #[.int .i64 0, .int .i64 0, .int .i64 0, .int .i64 0, .int .i64 0, .int .i64 0, .bool false, .int .u64 0, .int .u64 0, .int .u64 0, .int .u64 0], .int .i64 0, .agg #[.bool true, .int .i64 2, .int .i64 1]]) ∧ Below w.heap.size w w' := by
  have R0 := pjpe0 w
  have F0 := pjpe1 w
  have B0 := pjpe2 w
  have q0 := fun W hW => nget2 _ l 0 W (hB.later (w' := W) hW) (by omega)
  rw [hk] at q0
  have q0 := h_ q0
  have hg0 := pjpe3 w
  have hm := hmB hB
  have qr := h_ (fun k w => refuse2_any k w)
  unfold fv at qr
  have q4 := h_ (fun W hW => nget4 _ l 4 W (hB.later (w' := W) hW) (by omega))
  have qo : Hid (∀ w, Calls Tryz.prog 117 #[.int .i64 8] w fun e w' => e = .returned (.int .i64 8) ∧ w' = w) := h_ (fun w => round_any 8 w (by omega))
  have hn' : ((n : Int) != 8) = true := by simp; omega
  have hn2 : ((n : Int) == 8) = false := by simp; omega
  have hn3 : ¬ (n : Int) = 8 := by omega
  generalize be4 l 4 = qv at *
  clear hB hk
  go_enter Tryz.func143, Tryz.ntmps143
  go_wp2_with (first | (go_at_call_of 89 (Value.int IntKind.i64 0); refine (q0.out _ B0.out).mono ?_; rintro e w1 ⟨er, rfl, k1⟩; have K3 : Below ((w.alloc (.cells #[.int .i64 0, .int .i64 0, .int .i64 0, .int .i64 0, .int .i64 0, .int .i64 0, .bool false, .int .u64 0, .int .u64 0, .int .u64 0, .int .u64 0] 61)).alloc (.cells #[.bool false, .int .i64 0, .int .i64 0] 44)).heap.size ((w.alloc (.cells #[.int .i64 0, .int .i64 0, .int .i64 0, .int .i64 0, .int .i64 0, .int .i64 0, .bool false, .int .u64 0, .int .u64 0, .int .u64 0, .int .u64 0] 61)).alloc (.cells #[.bool false, .int .i64 0, .int .i64 0] 44)) (w1.alloc (.cells #[.int .i64 22, .int .i64 0, .int .i64 0, .int .i64 0, .int .i64 0, .int .i64 0, .bool false, .int .u64 0, .int .u64 0, .int .u64 0, .int .u64 0] 61)) := k1.trans ((below1 w1 _).mono k1.size); have hgw := Nat.lt_of_lt_of_le hg0 k1.size) | (go_at_call_of 89 (Value.int IntKind.i64 4); refine (q4.out _ (B0.out.trans (K3.mono B0.out.size))).mono ?_; rintro e w3 ⟨er3, rfl, b3⟩; obtain ⟨e3c0, e3c1, e3c2, e3c3, e3c4, e3c5, e3c6, e3c7, e3c8, e3c9, e3c10, e3c11, e3c12, e3c13, e3c14, e3c15, e3c16, e3c17, e3c18, e3c19, e3c20, e3c21⟩ := (((AB.at0 w1 61 [.int .i64 22, .int .i64 0, .int .i64 0, .int .i64 0, .int .i64 0, .int .i64 0, .bool false, .int .u64 0, .int .u64 0, .int .u64 0, .int .u64 0])).later b3).eleven; have A3 := (((AB.at0 w1 61 [.int .i64 22, .int .i64 0, .int .i64 0, .int .i64 0, .int .i64 0, .int .i64 0, .bool false, .int .u64 0, .int .u64 0, .int .u64 0, .int .u64 0])).later b3).set (j := 3) (.int .i64 qv); have K4 : Below ((w.alloc (.cells #[.int .i64 0, .int .i64 0, .int .i64 0, .int .i64 0, .int .i64 0, .int .i64 0, .bool false, .int .u64 0, .int .u64 0, .int .u64 0, .int .u64 0] 61)).alloc (.cells #[.bool false, .int .i64 0, .int .i64 0] 44)).heap.size ((w.alloc (.cells #[.int .i64 0, .int .i64 0, .int .i64 0, .int .i64 0, .int .i64 0, .int .i64 0, .bool false, .int .u64 0, .int .u64 0, .int .u64 0, .int .u64 0] 61)).alloc (.cells #[.bool false, .int .i64 0, .int .i64 0] 44)) (w3.setCell ⟨w1.heap.size, 3, none⟩ (.int .i64 qv)) := (K3.trans (b3.mono K3.size)).setCell k1.size _) | (go_at_call 117; refine (qo.out _).mono ?_; rintro e w' ⟨rfl, rfl⟩) | (go_at_call 145; refine (qr.out _ _).mono ?_; rintro e w9 ⟨rfl, b9⟩; have K9 := K4.trans (b9.mono K4.size); obtain ⟨s0, s1, s2, s3, s4, s5, s6, s7, s8, s9, s10, s11, s12, s13, s14, s15, s16, s17, s18, s19, s20, s21⟩ := (R0.out.later K9).eleven; obtain ⟨t0, t1, t2, t3, t4, t5⟩ := ((F0.out.later K9).far11 (h := w.heap.size) (by omega) (.int .i64 0) (.int .i64 0) (.int .i64 0) (.int .i64 0) (.int .i64 0) (.int .i64 0) (.bool false) (.int .u64 0) (.int .u64 0) (.int .u64 0) (.int .u64 0)).three; obtain ⟨h0, h1, h2, h3, h4, h5, h6, h7, h8, h9, h10, -⟩ := (((R0.out.later K9).set11 (.int .i64 0) (.int .i64 0) (.int .i64 0) (.int .i64 0) (.int .i64 0) (.int .i64 0) (.bool false) (.int .u64 0) (.int .u64 0) (.int .u64 0) (.int .u64 0)).far3 (h := (w.heap.size + 1)) (by omega) (.bool true) (.int .i64 2) (.int .i64 1)).eleven; obtain ⟨h11, h12, h13, -⟩ := (((F0.out.later K9).far11 (h := w.heap.size) (by omega) (.int .i64 0) (.int .i64 0) (.int .i64 0) (.int .i64 0) (.int .i64 0) (.int .i64 0) (.bool false) (.int .u64 0) (.int .u64 0) (.int .u64 0) (.int .u64 0)).set3 (.bool true) (.int .i64 2) (.int .i64 1)).three; have bb := below_set3 (g := (w.heap.size + 1)) (below_set11 (g := w.heap.size) (B0.out.trans (K9.mono B0.out.size)) (by omega) (.int .i64 0) (.int .i64 0) (.int .i64 0) (.int .i64 0) (.int .i64 0) (.int .i64 0) (.bool false) (.int .u64 0) (.int .u64 0) (.int .u64 0) (.int .u64 0)) (by omega) (.bool true) (.int .i64 2) (.int .i64 1)))
  exact bodyPost_ret (v := .tuple #[.agg #[.int .i64 0, .int .i64 0, .int .i64 0, .int .i64 0, .int .i64 0, .int .i64 0, .bool false, .int .u64 0, .int .u64 0, .int .u64 0, .int .u64 0], .int .i64 0, .agg #[.bool true, .int .i64 2, .int .i64 1]]) (by simp [results, Tryz.results143, go_sem, h0, h1, h2, h3, h4, h5, h6, h7, h8, h9, h10, h11, h12, h13]) rfl ⟨rfl, bb⟩
theorem read_17 (ao : Option Addr) (cap : Nat) (l : List Int) (w : World) (hB : Bytes w (.slice ao 8 cap) l) (hk : be2 l 0 = 17) :
    Calls Tryz.prog 143 #[.slice ao 8 cap] w fun e w' => e = .returned (.tuple #[.agg #[.int .i64 17, .int .i64 0, .int .i64 0, .int .i64 0, .int .i64 (be2 l 4), .int .i64 0, .bool false, .int .u64 0, .int .u64 0, .int .u64 0, .int .u64 0], .int .i64 6, .agg #[.bool false, .int .i64 0, .int .i64 0]]) ∧ Below w.heap.size w w' := by
  have R0 := pjpe0 w
  have F0 := pjpe1 w
  have B0 := pjpe2 w
  have q0 := fun W hW => nget2 _ l 0 W (hB.later (w' := W) hW) (by omega)
  rw [hk] at q0
  have q0 := h_ q0
  have hg0 := pjpe3 w
  have hm := hmB hB
  have qr := h_ (fun k w => refuse2_any k w)
  unfold fv at qr
  have q4 := h_ (fun W hW => nget2 _ l 4 W (hB.later (w' := W) hW) (by omega))
  have qo : Hid (∀ w, Calls Tryz.prog 117 #[.int .i64 6] w fun e w' => e = .returned (.int .i64 8) ∧ w' = w) := h_ (fun w => round_any 6 w (by omega))
  generalize be2 l 4 = yv at *
  clear hB hk
  go_enter Tryz.func143, Tryz.ntmps143
  go_wp2_with (first | (go_at_call_of 89 (Value.int IntKind.i64 0); refine (q0.out _ B0.out).mono ?_; rintro e w1 ⟨er, rfl, k1⟩; have K3 : Below ((w.alloc (.cells #[.int .i64 0, .int .i64 0, .int .i64 0, .int .i64 0, .int .i64 0, .int .i64 0, .bool false, .int .u64 0, .int .u64 0, .int .u64 0, .int .u64 0] 61)).alloc (.cells #[.bool false, .int .i64 0, .int .i64 0] 44)).heap.size ((w.alloc (.cells #[.int .i64 0, .int .i64 0, .int .i64 0, .int .i64 0, .int .i64 0, .int .i64 0, .bool false, .int .u64 0, .int .u64 0, .int .u64 0, .int .u64 0] 61)).alloc (.cells #[.bool false, .int .i64 0, .int .i64 0] 44)) (w1.alloc (.cells #[.int .i64 17, .int .i64 0, .int .i64 0, .int .i64 0, .int .i64 0, .int .i64 0, .bool false, .int .u64 0, .int .u64 0, .int .u64 0, .int .u64 0] 61)) := k1.trans ((below1 w1 _).mono k1.size); have hgw := Nat.lt_of_lt_of_le hg0 k1.size) | (go_at_call_of 89 (Value.int IntKind.i64 4); refine (q4.out _ (B0.out.trans (K3.mono B0.out.size))).mono ?_; rintro e w3 ⟨er3, rfl, b3⟩; obtain ⟨e3c0, e3c1, e3c2, e3c3, e3c4, e3c5, e3c6, e3c7, e3c8, e3c9, e3c10, e3c11, e3c12, e3c13, e3c14, e3c15, e3c16, e3c17, e3c18, e3c19, e3c20, e3c21⟩ := (((AB.at0 w1 61 [.int .i64 17, .int .i64 0, .int .i64 0, .int .i64 0, .int .i64 0, .int .i64 0, .bool false, .int .u64 0, .int .u64 0, .int .u64 0, .int .u64 0])).later b3).eleven; have A3 := (((AB.at0 w1 61 [.int .i64 17, .int .i64 0, .int .i64 0, .int .i64 0, .int .i64 0, .int .i64 0, .bool false, .int .u64 0, .int .u64 0, .int .u64 0, .int .u64 0])).later b3).set (j := 4) (.int .i64 yv); have K4 : Below ((w.alloc (.cells #[.int .i64 0, .int .i64 0, .int .i64 0, .int .i64 0, .int .i64 0, .int .i64 0, .bool false, .int .u64 0, .int .u64 0, .int .u64 0, .int .u64 0] 61)).alloc (.cells #[.bool false, .int .i64 0, .int .i64 0] 44)).heap.size ((w.alloc (.cells #[.int .i64 0, .int .i64 0, .int .i64 0, .int .i64 0, .int .i64 0, .int .i64 0, .bool false, .int .u64 0, .int .u64 0, .int .u64 0, .int .u64 0] 61)).alloc (.cells #[.bool false, .int .i64 0, .int .i64 0] 44)) (w3.setCell ⟨w1.heap.size, 4, none⟩ (.int .i64 yv)) := (K3.trans (b3.mono K3.size)).setCell k1.size _; obtain ⟨ac0, ac1, ac2, ac3, ac4, ac5, ac6, ac7, ac8, ac9, ac10, -⟩ := (A3).eleven; obtain ⟨s0, s1, s2, s3, s4, s5, s6, s7, s8, s9, s10, s11, s12, s13, s14, s15, s16, s17, s18, s19, s20, s21⟩ := (R0.out.later K4).eleven; obtain ⟨t0, t1, t2, t3, t4, t5⟩ := ((F0.out.later K4).far11 (h := w.heap.size) (by omega) (.int .i64 17) (.int .i64 0) (.int .i64 0) (.int .i64 0) (.int .i64 yv) (.int .i64 0) (.bool false) (.int .u64 0) (.int .u64 0) (.int .u64 0) (.int .u64 0)).three; obtain ⟨h0, h1, h2, h3, h4, h5, h6, h7, h8, h9, h10, -⟩ := (((R0.out.later K4).set11 (.int .i64 17) (.int .i64 0) (.int .i64 0) (.int .i64 0) (.int .i64 yv) (.int .i64 0) (.bool false) (.int .u64 0) (.int .u64 0) (.int .u64 0) (.int .u64 0)).far3 (h := (w.heap.size + 1)) (by omega) (.bool false) (.int .i64 0) (.int .i64 0)).eleven; obtain ⟨h11, h12, h13, -⟩ := (((F0.out.later K4).far11 (h := w.heap.size) (by omega) (.int .i64 17) (.int .i64 0) (.int .i64 0) (.int .i64 0) (.int .i64 yv) (.int .i64 0) (.bool false) (.int .u64 0) (.int .u64 0) (.int .u64 0) (.int .u64 0)).set3 (.bool false) (.int .i64 0) (.int .i64 0)).three; have bb := below_set3 (g := (w.heap.size + 1)) (below_set11 (g := w.heap.size) (B0.out.trans (K4.mono B0.out.size)) (by omega) (.int .i64 17) (.int .i64 0) (.int .i64 0) (.int .i64 0) (.int .i64 yv) (.int .i64 0) (.bool false) (.int .u64 0) (.int .u64 0) (.int .u64 0) (.int .u64 0)) (by omega) (.bool false) (.int .i64 0) (.int .i64 0)) | (go_at_call 117; refine (qo.out _).mono ?_; rintro e w' ⟨rfl, rfl⟩))
  exact bodyPost_ret (v := .tuple #[.agg #[.int .i64 17, .int .i64 0, .int .i64 0, .int .i64 0, .int .i64 yv, .int .i64 0, .bool false, .int .u64 0, .int .u64 0, .int .u64 0, .int .u64 0], .int .i64 6, .agg #[.bool false, .int .i64 0, .int .i64 0]]) (by simp [results, Tryz.results143, go_sem, h0, h1, h2, h3, h4, h5, h6, h7, h8, h9, h10, h11, h12, h13]) rfl ⟨rfl, bb⟩
theorem read_17b (ao : Option Addr) (n : Nat) (cap : Nat) (l : List Int) (w : World) (hB : Bytes w (.slice ao n cap) l) (hk : be2 l 0 = 17) (hn : n ≠ 8) :
    Calls Tryz.prog 143 #[.slice ao n cap] w fun e w' => e = .returned (.tuple #[.agg #[.int .i64 0, .int .i64 0, .int .i64 0, .int .i64 0, .int .i64 0, .int .i64 0, .bool false, .int .u64 0, .int .u64 0, .int .u64 0, .int .u64 0], .int .i64 0, .agg #[.bool true, .int .i64 2, .int .i64 1]]) ∧ Below w.heap.size w w' := by
  have R0 := pjpe0 w
  have F0 := pjpe1 w
  have B0 := pjpe2 w
  have q0 := fun W hW => nget2 _ l 0 W (hB.later (w' := W) hW) (by omega)
  rw [hk] at q0
  have q0 := h_ q0
  have hg0 := pjpe3 w
  have hm := hmB hB
  have qr := h_ (fun k w => refuse2_any k w)
  unfold fv at qr
  have q4 := h_ (fun W hW => nget2 _ l 4 W (hB.later (w' := W) hW) (by omega))
  have qo : Hid (∀ w, Calls Tryz.prog 117 #[.int .i64 6] w fun e w' => e = .returned (.int .i64 8) ∧ w' = w) := h_ (fun w => round_any 6 w (by omega))
  have hn' : ((n : Int) != 8) = true := by simp; omega
  have hn2 : ((n : Int) == 8) = false := by simp; omega
  have hn3 : ¬ (n : Int) = 8 := by omega
  generalize be2 l 4 = yv at *
  clear hB hk
  go_enter Tryz.func143, Tryz.ntmps143
  go_wp2_with (first | (go_at_call_of 89 (Value.int IntKind.i64 0); refine (q0.out _ B0.out).mono ?_; rintro e w1 ⟨er, rfl, k1⟩; have K3 : Below ((w.alloc (.cells #[.int .i64 0, .int .i64 0, .int .i64 0, .int .i64 0, .int .i64 0, .int .i64 0, .bool false, .int .u64 0, .int .u64 0, .int .u64 0, .int .u64 0] 61)).alloc (.cells #[.bool false, .int .i64 0, .int .i64 0] 44)).heap.size ((w.alloc (.cells #[.int .i64 0, .int .i64 0, .int .i64 0, .int .i64 0, .int .i64 0, .int .i64 0, .bool false, .int .u64 0, .int .u64 0, .int .u64 0, .int .u64 0] 61)).alloc (.cells #[.bool false, .int .i64 0, .int .i64 0] 44)) (w1.alloc (.cells #[.int .i64 17, .int .i64 0, .int .i64 0, .int .i64 0, .int .i64 0, .int .i64 0, .bool false, .int .u64 0, .int .u64 0, .int .u64 0, .int .u64 0] 61)) := k1.trans ((below1 w1 _).mono k1.size); have hgw := Nat.lt_of_lt_of_le hg0 k1.size) | (go_at_call_of 89 (Value.int IntKind.i64 4); refine (q4.out _ (B0.out.trans (K3.mono B0.out.size))).mono ?_; rintro e w3 ⟨er3, rfl, b3⟩; obtain ⟨e3c0, e3c1, e3c2, e3c3, e3c4, e3c5, e3c6, e3c7, e3c8, e3c9, e3c10, e3c11, e3c12, e3c13, e3c14, e3c15, e3c16, e3c17, e3c18, e3c19, e3c20, e3c21⟩ := (((AB.at0 w1 61 [.int .i64 17, .int .i64 0, .int .i64 0, .int .i64 0, .int .i64 0, .int .i64 0, .bool false, .int .u64 0, .int .u64 0, .int .u64 0, .int .u64 0])).later b3).eleven; have A3 := (((AB.at0 w1 61 [.int .i64 17, .int .i64 0, .int .i64 0, .int .i64 0, .int .i64 0, .int .i64 0, .bool false, .int .u64 0, .int .u64 0, .int .u64 0, .int .u64 0])).later b3).set (j := 4) (.int .i64 yv); have K4 : Below ((w.alloc (.cells #[.int .i64 0, .int .i64 0, .int .i64 0, .int .i64 0, .int .i64 0, .int .i64 0, .bool false, .int .u64 0, .int .u64 0, .int .u64 0, .int .u64 0] 61)).alloc (.cells #[.bool false, .int .i64 0, .int .i64 0] 44)).heap.size ((w.alloc (.cells #[.int .i64 0, .int .i64 0, .int .i64 0, .int .i64 0, .int .i64 0, .int .i64 0, .bool false, .int .u64 0, .int .u64 0, .int .u64 0, .int .u64 0] 61)).alloc (.cells #[.bool false, .int .i64 0, .int .i64 0] 44)) (w3.setCell ⟨w1.heap.size, 4, none⟩ (.int .i64 yv)) := (K3.trans (b3.mono K3.size)).setCell k1.size _) | (go_at_call 117; refine (qo.out _).mono ?_; rintro e w' ⟨rfl, rfl⟩) | (go_at_call 145; refine (qr.out _ _).mono ?_; rintro e w9 ⟨rfl, b9⟩; have K9 := K4.trans (b9.mono K4.size); obtain ⟨s0, s1, s2, s3, s4, s5, s6, s7, s8, s9, s10, s11, s12, s13, s14, s15, s16, s17, s18, s19, s20, s21⟩ := (R0.out.later K9).eleven; obtain ⟨t0, t1, t2, t3, t4, t5⟩ := ((F0.out.later K9).far11 (h := w.heap.size) (by omega) (.int .i64 0) (.int .i64 0) (.int .i64 0) (.int .i64 0) (.int .i64 0) (.int .i64 0) (.bool false) (.int .u64 0) (.int .u64 0) (.int .u64 0) (.int .u64 0)).three; obtain ⟨h0, h1, h2, h3, h4, h5, h6, h7, h8, h9, h10, -⟩ := (((R0.out.later K9).set11 (.int .i64 0) (.int .i64 0) (.int .i64 0) (.int .i64 0) (.int .i64 0) (.int .i64 0) (.bool false) (.int .u64 0) (.int .u64 0) (.int .u64 0) (.int .u64 0)).far3 (h := (w.heap.size + 1)) (by omega) (.bool true) (.int .i64 2) (.int .i64 1)).eleven; obtain ⟨h11, h12, h13, -⟩ := (((F0.out.later K9).far11 (h := w.heap.size) (by omega) (.int .i64 0) (.int .i64 0) (.int .i64 0) (.int .i64 0) (.int .i64 0) (.int .i64 0) (.bool false) (.int .u64 0) (.int .u64 0) (.int .u64 0) (.int .u64 0)).set3 (.bool true) (.int .i64 2) (.int .i64 1)).three; have bb := below_set3 (g := (w.heap.size + 1)) (below_set11 (g := w.heap.size) (B0.out.trans (K9.mono B0.out.size)) (by omega) (.int .i64 0) (.int .i64 0) (.int .i64 0) (.int .i64 0) (.int .i64 0) (.int .i64 0) (.bool false) (.int .u64 0) (.int .u64 0) (.int .u64 0) (.int .u64 0)) (by omega) (.bool true) (.int .i64 2) (.int .i64 1)))
  exact bodyPost_ret (v := .tuple #[.agg #[.int .i64 0, .int .i64 0, .int .i64 0, .int .i64 0, .int .i64 0, .int .i64 0, .bool false, .int .u64 0, .int .u64 0, .int .u64 0, .int .u64 0], .int .i64 0, .agg #[.bool true, .int .i64 2, .int .i64 1]]) (by simp [results, Tryz.results143, go_sem, h0, h1, h2, h3, h4, h5, h6, h7, h8, h9, h10, h11, h12, h13]) rfl ⟨rfl, bb⟩
theorem read_18 (ao : Option Addr) (cap : Nat) (l : List Int) (w : World) (hB : Bytes w (.slice ao 8 cap) l) (hk : be2 l 0 = 18) :
    Calls Tryz.prog 143 #[.slice ao 8 cap] w fun e w' => e = .returned (.tuple #[.agg #[.int .i64 18, .int .i64 0, .int .i64 0, .int .i64 0, .int .i64 0, .int .i64 0, .bool false, .int .u64 0, .int .u64 0, .int .u64 0, .int .u64 0], .int .i64 4, .agg #[.bool false, .int .i64 0, .int .i64 0]]) ∧ Below w.heap.size w w' := by
  have R0 := pjpe0 w
  have F0 := pjpe1 w
  have B0 := pjpe2 w
  have q0 := fun W hW => nget2 _ l 0 W (hB.later (w' := W) hW) (by omega)
  rw [hk] at q0
  have q0 := h_ q0
  have hg0 := pjpe3 w
  have hm := hmB hB
  have qr := h_ (fun k w => refuse2_any k w)
  unfold fv at qr
  have qo : Hid (∀ w, Calls Tryz.prog 117 #[.int .i64 4] w fun e w' => e = .returned (.int .i64 8) ∧ w' = w) := h_ (fun w => round_any 4 w (by omega))
  clear hB hk
  go_enter Tryz.func143, Tryz.ntmps143
  go_wp2_with (first | (go_at_call_of 89 (Value.int IntKind.i64 0); refine (q0.out _ B0.out).mono ?_; rintro e w1 ⟨er, rfl, k1⟩; have K3 : Below ((w.alloc (.cells #[.int .i64 0, .int .i64 0, .int .i64 0, .int .i64 0, .int .i64 0, .int .i64 0, .bool false, .int .u64 0, .int .u64 0, .int .u64 0, .int .u64 0] 61)).alloc (.cells #[.bool false, .int .i64 0, .int .i64 0] 44)).heap.size ((w.alloc (.cells #[.int .i64 0, .int .i64 0, .int .i64 0, .int .i64 0, .int .i64 0, .int .i64 0, .bool false, .int .u64 0, .int .u64 0, .int .u64 0, .int .u64 0] 61)).alloc (.cells #[.bool false, .int .i64 0, .int .i64 0] 44)) (w1.alloc (.cells #[.int .i64 18, .int .i64 0, .int .i64 0, .int .i64 0, .int .i64 0, .int .i64 0, .bool false, .int .u64 0, .int .u64 0, .int .u64 0, .int .u64 0] 61)) := k1.trans ((below1 w1 _).mono k1.size); have hgw := Nat.lt_of_lt_of_le hg0 k1.size; obtain ⟨ac0, ac1, ac2, ac3, ac4, ac5, ac6, ac7, ac8, ac9, ac10, -⟩ := ((AB.at0 w1 61 [.int .i64 18, .int .i64 0, .int .i64 0, .int .i64 0, .int .i64 0, .int .i64 0, .bool false, .int .u64 0, .int .u64 0, .int .u64 0, .int .u64 0])).eleven; obtain ⟨s0, s1, s2, s3, s4, s5, s6, s7, s8, s9, s10, s11, s12, s13, s14, s15, s16, s17, s18, s19, s20, s21⟩ := (R0.out.later K3).eleven; obtain ⟨t0, t1, t2, t3, t4, t5⟩ := ((F0.out.later K3).far11 (h := w.heap.size) (by omega) (.int .i64 18) (.int .i64 0) (.int .i64 0) (.int .i64 0) (.int .i64 0) (.int .i64 0) (.bool false) (.int .u64 0) (.int .u64 0) (.int .u64 0) (.int .u64 0)).three; obtain ⟨h0, h1, h2, h3, h4, h5, h6, h7, h8, h9, h10, -⟩ := (((R0.out.later K3).set11 (.int .i64 18) (.int .i64 0) (.int .i64 0) (.int .i64 0) (.int .i64 0) (.int .i64 0) (.bool false) (.int .u64 0) (.int .u64 0) (.int .u64 0) (.int .u64 0)).far3 (h := (w.heap.size + 1)) (by omega) (.bool false) (.int .i64 0) (.int .i64 0)).eleven; obtain ⟨h11, h12, h13, -⟩ := (((F0.out.later K3).far11 (h := w.heap.size) (by omega) (.int .i64 18) (.int .i64 0) (.int .i64 0) (.int .i64 0) (.int .i64 0) (.int .i64 0) (.bool false) (.int .u64 0) (.int .u64 0) (.int .u64 0) (.int .u64 0)).set3 (.bool false) (.int .i64 0) (.int .i64 0)).three; have bb := below_set3 (g := (w.heap.size + 1)) (below_set11 (g := w.heap.size) (B0.out.trans (K3.mono B0.out.size)) (by omega) (.int .i64 18) (.int .i64 0) (.int .i64 0) (.int .i64 0) (.int .i64 0) (.int .i64 0) (.bool false) (.int .u64 0) (.int .u64 0) (.int .u64 0) (.int .u64 0)) (by omega) (.bool false) (.int .i64 0) (.int .i64 0)) | (go_at_call 117; refine (qo.out _).mono ?_; rintro e w' ⟨rfl, rfl⟩))
  exact bodyPost_ret (v := .tuple #[.agg #[.int .i64 18, .int .i64 0, .int .i64 0, .int .i64 0, .int .i64 0, .int .i64 0, .bool false, .int .u64 0, .int .u64 0, .int .u64 0, .int .u64 0], .int .i64 4, .agg #[.bool false, .int .i64 0, .int .i64 0]]) (by simp [results, Tryz.results143, go_sem, h0, h1, h2, h3, h4, h5, h6, h7, h8, h9, h10, h11, h12, h13]) rfl ⟨rfl, bb⟩
theorem read_18b (ao : Option Addr) (n : Nat) (cap : Nat) (l : List Int) (w : World) (hB : Bytes w (.slice ao n cap) l) (hk : be2 l 0 = 18) (hn : n ≠ 8) :
    Calls Tryz.prog 143 #[.slice ao n cap] w fun e w' => e = .returned (.tuple #[.agg #[.int .i64 0, .int .i64 0, .int .i64 0, .int .i64 0, .int .i64 0, .int .i64 0, .bool false, .int .u64 0, .int .u64 0, .int .u64 0, .int .u64 0], .int .i64 0, .agg #[.bool true, .int .i64 2, .int .i64 1]]) ∧ Below w.heap.size w w' := by
  have R0 := pjpe0 w
  have F0 := pjpe1 w
  have B0 := pjpe2 w
  have q0 := fun W hW => nget2 _ l 0 W (hB.later (w' := W) hW) (by omega)
  rw [hk] at q0
  have q0 := h_ q0
  have hg0 := pjpe3 w
  have hm := hmB hB
  have qr := h_ (fun k w => refuse2_any k w)
  unfold fv at qr
  have qo : Hid (∀ w, Calls Tryz.prog 117 #[.int .i64 4] w fun e w' => e = .returned (.int .i64 8) ∧ w' = w) := h_ (fun w => round_any 4 w (by omega))
  have hn' : ((n : Int) != 8) = true := by simp; omega
  have hn2 : ((n : Int) == 8) = false := by simp; omega
  have hn3 : ¬ (n : Int) = 8 := by omega
  clear hB hk
  go_enter Tryz.func143, Tryz.ntmps143
  go_wp2_with (first | (go_at_call_of 89 (Value.int IntKind.i64 0); refine (q0.out _ B0.out).mono ?_; rintro e w1 ⟨er, rfl, k1⟩; have K3 : Below ((w.alloc (.cells #[.int .i64 0, .int .i64 0, .int .i64 0, .int .i64 0, .int .i64 0, .int .i64 0, .bool false, .int .u64 0, .int .u64 0, .int .u64 0, .int .u64 0] 61)).alloc (.cells #[.bool false, .int .i64 0, .int .i64 0] 44)).heap.size ((w.alloc (.cells #[.int .i64 0, .int .i64 0, .int .i64 0, .int .i64 0, .int .i64 0, .int .i64 0, .bool false, .int .u64 0, .int .u64 0, .int .u64 0, .int .u64 0] 61)).alloc (.cells #[.bool false, .int .i64 0, .int .i64 0] 44)) (w1.alloc (.cells #[.int .i64 18, .int .i64 0, .int .i64 0, .int .i64 0, .int .i64 0, .int .i64 0, .bool false, .int .u64 0, .int .u64 0, .int .u64 0, .int .u64 0] 61)) := k1.trans ((below1 w1 _).mono k1.size); have hgw := Nat.lt_of_lt_of_le hg0 k1.size) | (go_at_call 117; refine (qo.out _).mono ?_; rintro e w' ⟨rfl, rfl⟩) | (go_at_call 145; refine (qr.out _ _).mono ?_; rintro e w9 ⟨rfl, b9⟩; have K9 := K3.trans (b9.mono K3.size); obtain ⟨s0, s1, s2, s3, s4, s5, s6, s7, s8, s9, s10, s11, s12, s13, s14, s15, s16, s17, s18, s19, s20, s21⟩ := (R0.out.later K9).eleven; obtain ⟨t0, t1, t2, t3, t4, t5⟩ := ((F0.out.later K9).far11 (h := w.heap.size) (by omega) (.int .i64 0) (.int .i64 0) (.int .i64 0) (.int .i64 0) (.int .i64 0) (.int .i64 0) (.bool false) (.int .u64 0) (.int .u64 0) (.int .u64 0) (.int .u64 0)).three; obtain ⟨h0, h1, h2, h3, h4, h5, h6, h7, h8, h9, h10, -⟩ := (((R0.out.later K9).set11 (.int .i64 0) (.int .i64 0) (.int .i64 0) (.int .i64 0) (.int .i64 0) (.int .i64 0) (.bool false) (.int .u64 0) (.int .u64 0) (.int .u64 0) (.int .u64 0)).far3 (h := (w.heap.size + 1)) (by omega) (.bool true) (.int .i64 2) (.int .i64 1)).eleven; obtain ⟨h11, h12, h13, -⟩ := (((F0.out.later K9).far11 (h := w.heap.size) (by omega) (.int .i64 0) (.int .i64 0) (.int .i64 0) (.int .i64 0) (.int .i64 0) (.int .i64 0) (.bool false) (.int .u64 0) (.int .u64 0) (.int .u64 0) (.int .u64 0)).set3 (.bool true) (.int .i64 2) (.int .i64 1)).three; have bb := below_set3 (g := (w.heap.size + 1)) (below_set11 (g := w.heap.size) (B0.out.trans (K9.mono B0.out.size)) (by omega) (.int .i64 0) (.int .i64 0) (.int .i64 0) (.int .i64 0) (.int .i64 0) (.int .i64 0) (.bool false) (.int .u64 0) (.int .u64 0) (.int .u64 0) (.int .u64 0)) (by omega) (.bool true) (.int .i64 2) (.int .i64 1)))
  exact bodyPost_ret (v := .tuple #[.agg #[.int .i64 0, .int .i64 0, .int .i64 0, .int .i64 0, .int .i64 0, .int .i64 0, .bool false, .int .u64 0, .int .u64 0, .int .u64 0, .int .u64 0], .int .i64 0, .agg #[.bool true, .int .i64 2, .int .i64 1]]) (by simp [results, Tryz.results143, go_sem, h0, h1, h2, h3, h4, h5, h6, h7, h8, h9, h10, h11, h12, h13]) rfl ⟨rfl, bb⟩
theorem read_z (ao : Option Addr) (n : Nat) (k : Int) (cap : Nat) (l : List Int) (w : World) (hB : Bytes w (.slice ao n cap) l) (hk : be2 l 0 = k) (h0 : k ≠ 0) (h22 : k ≠ 22) (h17 : k ≠ 17) (h18 : k ≠ 18) (h25 : k ≠ 25) :
    Calls Tryz.prog 143 #[.slice ao n cap] w fun e w' => e = .returned (.tuple #[.agg #[.int .i64 0, .int .i64 0, .int .i64 0, .int .i64 0, .int .i64 0, .int .i64 0, .bool false, .int .u64 0, .int .u64 0, .int .u64 0, .int .u64 0], .int .i64 0, .agg #[.bool true, .int .i64 2, .int .i64 0]]) ∧ Below w.heap.size w w' := by
  have R0 := pjpe0 w
  have F0 := pjpe1 w
  have B0 := pjpe2 w
  have q0 := fun W hW => nget2 _ l 0 W (hB.later (w' := W) hW) (by omega)
  rw [hk] at q0
  have q0 := h_ q0
  have hg0 := pjpe3 w
  have hm := hmB hB
  have qr := h_ (fun k w => refuse2_any k w)
  unfold fv at qr
  clear hB hk
  go_enter Tryz.func143, Tryz.ntmps143
  go_wp2_with (first | (go_at_call_of 89 (Value.int IntKind.i64 0); refine (q0.out _ B0.out).mono ?_; rintro e w1 ⟨er, rfl, k1⟩; have K3 : Below ((w.alloc (.cells #[.int .i64 0, .int .i64 0, .int .i64 0, .int .i64 0, .int .i64 0, .int .i64 0, .bool false, .int .u64 0, .int .u64 0, .int .u64 0, .int .u64 0] 61)).alloc (.cells #[.bool false, .int .i64 0, .int .i64 0] 44)).heap.size ((w.alloc (.cells #[.int .i64 0, .int .i64 0, .int .i64 0, .int .i64 0, .int .i64 0, .int .i64 0, .bool false, .int .u64 0, .int .u64 0, .int .u64 0, .int .u64 0] 61)).alloc (.cells #[.bool false, .int .i64 0, .int .i64 0] 44)) (w1.alloc (.cells #[.int .i64 k, .int .i64 0, .int .i64 0, .int .i64 0, .int .i64 0, .int .i64 0, .bool false, .int .u64 0, .int .u64 0, .int .u64 0, .int .u64 0] 61)) := k1.trans ((below1 w1 _).mono k1.size); have hgw := Nat.lt_of_lt_of_le hg0 k1.size) | (go_at_call 145; refine (qr.out _ _).mono ?_; rintro e w9 ⟨rfl, b9⟩; have K9 := K3.trans (b9.mono K3.size); obtain ⟨s0, s1, s2, s3, s4, s5, s6, s7, s8, s9, s10, s11, s12, s13, s14, s15, s16, s17, s18, s19, s20, s21⟩ := (R0.out.later K9).eleven; obtain ⟨t0, t1, t2, t3, t4, t5⟩ := ((F0.out.later K9).far11 (h := w.heap.size) (by omega) (.int .i64 0) (.int .i64 0) (.int .i64 0) (.int .i64 0) (.int .i64 0) (.int .i64 0) (.bool false) (.int .u64 0) (.int .u64 0) (.int .u64 0) (.int .u64 0)).three; obtain ⟨h0, h1, h2, h3, h4, h5, h6, h7, h8, h9, h10, -⟩ := (((R0.out.later K9).set11 (.int .i64 0) (.int .i64 0) (.int .i64 0) (.int .i64 0) (.int .i64 0) (.int .i64 0) (.bool false) (.int .u64 0) (.int .u64 0) (.int .u64 0) (.int .u64 0)).far3 (h := (w.heap.size + 1)) (by omega) (.bool true) (.int .i64 2) (.int .i64 0)).eleven; obtain ⟨h11, h12, h13, -⟩ := (((F0.out.later K9).far11 (h := w.heap.size) (by omega) (.int .i64 0) (.int .i64 0) (.int .i64 0) (.int .i64 0) (.int .i64 0) (.int .i64 0) (.bool false) (.int .u64 0) (.int .u64 0) (.int .u64 0) (.int .u64 0)).set3 (.bool true) (.int .i64 2) (.int .i64 0)).three; have bb := below_set3 (g := (w.heap.size + 1)) (below_set11 (g := w.heap.size) (B0.out.trans (K9.mono B0.out.size)) (by omega) (.int .i64 0) (.int .i64 0) (.int .i64 0) (.int .i64 0) (.int .i64 0) (.int .i64 0) (.bool false) (.int .u64 0) (.int .u64 0) (.int .u64 0) (.int .u64 0)) (by omega) (.bool true) (.int .i64 2) (.int .i64 0)))
  exact bodyPost_ret (v := .tuple #[.agg #[.int .i64 0, .int .i64 0, .int .i64 0, .int .i64 0, .int .i64 0, .int .i64 0, .bool false, .int .u64 0, .int .u64 0, .int .u64 0, .int .u64 0], .int .i64 0, .agg #[.bool true, .int .i64 2, .int .i64 0]]) (by simp [results, Tryz.results143, go_sem, h0, h1, h2, h3, h4, h5, h6, h7, h8, h9, h10, h11, h12, h13]) rfl ⟨rfl, bb⟩
theorem read_25f (ao : Option Addr) (n cap : Nat) (l : List Int) (kf cc : Int) (w : World) (hB : Bytes w (.slice ao n cap) l) (hk : be2 l 0 = 25) (h4 : 4 ≤ l.length) (hd : decV (l.drop 4) = .tuple #[ov 0 false 0 0 0 0, .int .i64 0, fv true 4 kf]) (qs : ∀ w, Calls Tryz.prog 167 #[.agg #[.bool true, .int .i64 4, .int .i64 kf]] w fun e w' => e = .returned (.agg #[.bool true, .int .i64 2, .int .i64 cc]) ∧ Below w.heap.size w w') :
    Calls Tryz.prog 143 #[.slice ao n cap] w fun e w' => e = .returned (.tuple #[.agg #[.int .i64 0, .int .i64 0, .int .i64 0, .int .i64 0, .int .i64 0, .int .i64 0, .bool false, .int .u64 0, .int .u64 0, .int .u64 0, .int .u64 0], .int .i64 0, .agg #[.bool true, .int .i64 2, .int .i64 cc]]) ∧ Below w.heap.size w w' := by
  have R0 := pjpe0 w
  have F0 := pjpe1 w
  have B0 := pjpe2 w
  have q0 := fun W hW => nget2 _ l 0 W (hB.later (w' := W) hW) (by omega)
  rw [hk] at q0
  have q0 := h_ q0
  have hg0 := pjpe3 w
  have hm := hmB hB
  obtain ⟨ao', -, hsl, hB2⟩ := bytes_slice hB 4 h4
  have hsl : ∀ wx, (Instr.slice 25 (.slice ao n cap) (some (.int .i64 4)) none none).run Tryz.prog wx = .ok (.slice ao' (n - 4) (cap - 4)) wx := hsl
  have qd := fun W hW => odec_any _ _ W (hB2.later (w' := W) hW)
  rw [hd] at qd
  unfold ov fv at qd
  clear hd
  have qs := h_ qs
  have qd := h_ qd
  clear hB hB2 hk h4
  go_enter Tryz.func143, Tryz.ntmps143
  go_wp2_with (first | (go_at_call 89; refine (q0.out _ B0.out).mono ?_; rintro e w1 ⟨er, rfl, k1⟩; have K3 : Below ((w.alloc (.cells #[.int .i64 0, .int .i64 0, .int .i64 0, .int .i64 0, .int .i64 0, .int .i64 0, .bool false, .int .u64 0, .int .u64 0, .int .u64 0, .int .u64 0] 61)).alloc (.cells #[.bool false, .int .i64 0, .int .i64 0] 44)).heap.size ((w.alloc (.cells #[.int .i64 0, .int .i64 0, .int .i64 0, .int .i64 0, .int .i64 0, .int .i64 0, .bool false, .int .u64 0, .int .u64 0, .int .u64 0, .int .u64 0] 61)).alloc (.cells #[.bool false, .int .i64 0, .int .i64 0] 44)) (w1.alloc (.cells #[.int .i64 25, .int .i64 0, .int .i64 0, .int .i64 0, .int .i64 0, .int .i64 0, .bool false, .int .u64 0, .int .u64 0, .int .u64 0, .int .u64 0] 61)) := k1.trans ((below1 w1 _).mono k1.size); have hgw := Nat.lt_of_lt_of_le hg0 k1.size) | (go_at_call 166; refine (qd.out _ (B0.out.trans (K3.mono B0.out.size))).mono ?_; rintro e w3 ⟨rfl, b3⟩; have A3 := ((AB.at0 w1 61 [.int .i64 25, .int .i64 0, .int .i64 0, .int .i64 0, .int .i64 0, .int .i64 0, .bool false, .int .u64 0, .int .u64 0, .int .u64 0, .int .u64 0]).later b3); have j3 : Below w3.heap.size w3 ((w3.alloc (.cells #[.int .i64 0, .bool false, .int .u64 0, .int .u64 0, .int .u64 0, .int .u64 0] 59)).alloc (.cells #[.bool true, .int .i64 4, .int .i64 kf] 44)) := below2 w3 _ _; have K4 := (K3.trans (b3.mono K3.size)).trans (j3.mono (K3.trans (b3.mono K3.size)).size); obtain ⟨e4c0, e4c1, e4c2, e4c3, e4c4, e4c5, e4c6, e4c7, e4c8, e4c9, e4c10, e4c11, e4c12, e4c13, e4c14, e4c15, e4c16, e4c17, e4c18, e4c19, e4c20, e4c21⟩ := (A3.later j3).eleven; have F4 := AB.at1 w3 (.cells #[.int .i64 0, .bool false, .int .u64 0, .int .u64 0, .int .u64 0, .int .u64 0] 59) 44 [.bool true, .int .i64 4, .int .i64 kf]; have O4 := (AB.at0 w3 59 [.int .i64 0, .bool false, .int .u64 0, .int .u64 0, .int .u64 0, .int .u64 0]).alloc (.cells #[.bool true, .int .i64 4, .int .i64 kf] 44); obtain ⟨f40, f41, f42, -⟩ := F4.three; obtain ⟨o40, o41, o42, o43, o44, o45, -⟩ := O4.six) | (go_at_call 167; refine (qs.out _).mono ?_; rintro e w9 ⟨rfl, b9⟩; have K9 := K4.trans (b9.mono K4.size); obtain ⟨s0, s1, s2, s3, s4, s5, s6, s7, s8, s9, s10, s11, s12, s13, s14, s15, s16, s17, s18, s19, s20, s21⟩ := (R0.out.later K9).eleven; obtain ⟨t0, t1, t2, t3, t4, t5⟩ := ((F0.out.later K9).far11 (h := w.heap.size) (by omega) (.int .i64 0) (.int .i64 0) (.int .i64 0) (.int .i64 0) (.int .i64 0) (.int .i64 0) (.bool false) (.int .u64 0) (.int .u64 0) (.int .u64 0) (.int .u64 0)).three; obtain ⟨h0, h1, h2, h3, h4, h5, h6, h7, h8, h9, h10, -⟩ := (((R0.out.later K9).set11 (.int .i64 0) (.int .i64 0) (.int .i64 0) (.int .i64 0) (.int .i64 0) (.int .i64 0) (.bool false) (.int .u64 0) (.int .u64 0) (.int .u64 0) (.int .u64 0)).far3 (h := (w.heap.size + 1)) (by omega) (.bool true) (.int .i64 2) (.int .i64 cc)).eleven; obtain ⟨h11, h12, h13, -⟩ := (((F0.out.later K9).far11 (h := w.heap.size) (by omega) (.int .i64 0) (.int .i64 0) (.int .i64 0) (.int .i64 0) (.int .i64 0) (.int .i64 0) (.bool false) (.int .u64 0) (.int .u64 0) (.int .u64 0) (.int .u64 0)).set3 (.bool true) (.int .i64 2) (.int .i64 cc)).three; have bb := below_set3 (g := (w.heap.size + 1)) (below_set11 (g := w.heap.size) (B0.out.trans (K9.mono B0.out.size)) (by omega) (.int .i64 0) (.int .i64 0) (.int .i64 0) (.int .i64 0) (.int .i64 0) (.int .i64 0) (.bool false) (.int .u64 0) (.int .u64 0) (.int .u64 0) (.int .u64 0)) (by omega) (.bool true) (.int .i64 2) (.int .i64 cc)))
  exact bodyPost_ret (v := .tuple #[.agg #[.int .i64 0, .int .i64 0, .int .i64 0, .int .i64 0, .int .i64 0, .int .i64 0, .bool false, .int .u64 0, .int .u64 0, .int .u64 0, .int .u64 0], .int .i64 0, .agg #[.bool true, .int .i64 2, .int .i64 cc]]) (by simp [results, Tryz.results143, go_sem, h0, h1, h2, h3, h4, h5, h6, h7, h8, h9, h10, h11, h12, h13]) rfl ⟨rfl, bb⟩
theorem read_25 (ao : Option Addr) (n cap : Nat) (l : List Int) (f : Int) (m : Bool) (a b c d : Nat) (nn u : Nat) (w : World) (hB : Bytes w (.slice ao n cap) l) (hk : be2 l 0 = 25) (h4 : 4 ≤ l.length) (hd : decV (l.drop 4) = .tuple #[ov f m a b c d, .int .i64 (nn : Int), fv false 0 0]) (hnn : nn ≤ 1000) (hu : 4 + nn = u) (hn : n = r8 u) :
    Calls Tryz.prog 143 #[.slice ao n cap] w fun e w' => e = .returned (.tuple #[.agg #[.int .i64 25, .int .i64 0, .int .i64 0, .int .i64 0, .int .i64 0, .int .i64 f, .bool m, .int .u64 (a : Int), .int .u64 (b : Int), .int .u64 (c : Int), .int .u64 (d : Int)], .int .i64 (u : Int), .agg #[.bool false, .int .i64 0, .int .i64 0]]) ∧ Below w.heap.size w w' := by
  have R0 := pjpe0 w
  have F0 := pjpe1 w
  have B0 := pjpe2 w
  have q0 := fun W hW => nget2 _ l 0 W (hB.later (w' := W) hW) (by omega)
  rw [hk] at q0
  have q0 := h_ q0
  have hg0 := pjpe3 w
  have hm := hmB hB
  obtain ⟨ao', -, hsl, hB2⟩ := bytes_slice hB 4 h4
  have hsl : ∀ wx, (Instr.slice 25 (.slice ao n cap) (some (.int .i64 4)) none none).run Tryz.prog wx = .ok (.slice ao' (n - 4) (cap - 4)) wx := hsl
  have qd := fun W hW => odec_any _ _ W (hB2.later (w' := W) hW)
  rw [hd] at qd
  unfold ov fv at qd
  clear hd
  have hw4 : IntKind.i64.wrap (4 + (nn : Int)) = (u : Int) := by rw [IntKind.wrap_i64]; omega
  have qo : Hid (∀ w, Calls Tryz.prog 117 #[.int .i64 (u : Int)] w fun e w' => e = .returned (.int .i64 ((r8 u : Nat) : Int)) ∧ w' = w) := h_ (fun w => round_any u w (by omega))
  rw [← hn] at qo
  clear hn hu hnn
  have qd := h_ qd
  clear hB hB2 hk h4
  go_enter Tryz.func143, Tryz.ntmps143
  go_upto_region 25 with (first | (go_at_call 89; refine (q0.out _ B0.out).mono ?_; rintro e w1 ⟨er, rfl, k1⟩; have K3 : Below ((w.alloc (.cells #[.int .i64 0, .int .i64 0, .int .i64 0, .int .i64 0, .int .i64 0, .int .i64 0, .bool false, .int .u64 0, .int .u64 0, .int .u64 0, .int .u64 0] 61)).alloc (.cells #[.bool false, .int .i64 0, .int .i64 0] 44)).heap.size ((w.alloc (.cells #[.int .i64 0, .int .i64 0, .int .i64 0, .int .i64 0, .int .i64 0, .int .i64 0, .bool false, .int .u64 0, .int .u64 0, .int .u64 0, .int .u64 0] 61)).alloc (.cells #[.bool false, .int .i64 0, .int .i64 0] 44)) (w1.alloc (.cells #[.int .i64 25, .int .i64 0, .int .i64 0, .int .i64 0, .int .i64 0, .int .i64 0, .bool false, .int .u64 0, .int .u64 0, .int .u64 0, .int .u64 0] 61)) := k1.trans ((below1 w1 _).mono k1.size); have hgw := Nat.lt_of_lt_of_le hg0 k1.size) | (go_at_call 166; refine (qd.out _ (B0.out.trans (K3.mono B0.out.size))).mono ?_; rintro e w3 ⟨rfl, b3⟩; have A3 := ((AB.at0 w1 61 [.int .i64 25, .int .i64 0, .int .i64 0, .int .i64 0, .int .i64 0, .int .i64 0, .bool false, .int .u64 0, .int .u64 0, .int .u64 0, .int .u64 0]).later b3); have j3 : Below w3.heap.size w3 ((w3.alloc (.cells #[.int .i64 f, .bool m, .int .u64 (a : Int), .int .u64 (b : Int), .int .u64 (c : Int), .int .u64 (d : Int)] 59)).alloc (.cells #[.bool false, .int .i64 0, .int .i64 0] 44)) := below2 w3 _ _; have K4 := (K3.trans (b3.mono K3.size)).trans (j3.mono (K3.trans (b3.mono K3.size)).size); obtain ⟨e4c0, e4c1, e4c2, e4c3, e4c4, e4c5, e4c6, e4c7, e4c8, e4c9, e4c10, e4c11, e4c12, e4c13, e4c14, e4c15, e4c16, e4c17, e4c18, e4c19, e4c20, e4c21⟩ := (A3.later j3).eleven; have F4 := AB.at1 w3 (.cells #[.int .i64 f, .bool m, .int .u64 (a : Int), .int .u64 (b : Int), .int .u64 (c : Int), .int .u64 (d : Int)] 59) 44 [.bool false, .int .i64 0, .int .i64 0]; have O4 := (AB.at0 w3 59 [.int .i64 f, .bool m, .int .u64 (a : Int), .int .u64 (b : Int), .int .u64 (c : Int), .int .u64 (d : Int)]).alloc (.cells #[.bool false, .int .i64 0, .int .i64 0] 44); obtain ⟨f40, f41, f42, -⟩ := F4.three; obtain ⟨o40, o41, o42, o43, o44, o45, -⟩ := O4.six; have A5 := (A3.later j3).set5 (.int .i64 f) (.bool m) (.int .u64 (a : Int)) (.int .u64 (b : Int)) (.int .u64 (c : Int)) (.int .u64 (d : Int)); have K5 := below_set5 K4 k1.size (.int .i64 f) (.bool m) (.int .u64 (a : Int)) (.int .u64 (b : Int)) (.int .u64 (c : Int)) (.int .u64 (d : Int)); obtain ⟨ac0, ac1, ac2, ac3, ac4, ac5, ac6, ac7, ac8, ac9, ac10, -⟩ := A5.eleven) | (go_at_call 117; refine (qo.out _).mono ?_; rintro e w' ⟨rfl, rfl⟩))
  clear e4c0 e4c1 e4c2 e4c3 e4c4 e4c5 e4c6 e4c7 e4c8 e4c9 e4c10 e4c11 e4c12 e4c13 e4c14 e4c15 e4c16 e4c17 e4c18 e4c19 e4c20 e4c21 f40 f41 f42 o40 o41 o42 o43 o44 o45 ac0 ac1 ac2 ac3 ac4 ac5 ac6 ac7 ac8 ac9 ac10
  have A5 := h_ A5
  generalize ((((((((w3.alloc (.cells #[.int .i64 f, .bool m, .int .u64 (a : Int), .int .u64 (b : Int), .int .u64 (c : Int), .int .u64 (d : Int)] 59)).alloc (.cells #[.bool false, .int .i64 0, .int .i64 0] 44)).setCell ⟨w1.heap.size, 5, none⟩ (.int .i64 f)).setCell ⟨w1.heap.size, 6, none⟩ (.bool m)).setCell ⟨w1.heap.size, 7, none⟩ (.int .u64 (a : Int))).setCell ⟨w1.heap.size, 8, none⟩ (.int .u64 (b : Int))).setCell ⟨w1.heap.size, 9, none⟩ (.int .u64 (c : Int))).setCell ⟨w1.heap.size, 10, none⟩ (.int .u64 (d : Int))) = Y at *
  obtain ⟨ac0, ac1, ac2, ac3, ac4, ac5, ac6, ac7, ac8, ac9, ac10, -⟩ := A5.out.eleven
  obtain ⟨s0, s1, s2, s3, s4, s5, s6, s7, s8, s9, s10, s11, s12, s13, s14, s15, s16, s17, s18, s19, s20, s21⟩ := (R0.out.later K5).eleven
  obtain ⟨t0, t1, t2, t3, t4, t5⟩ := ((F0.out.later K5).far11 (h := w.heap.size) (by omega) (.int .i64 25) (.int .i64 0) (.int .i64 0) (.int .i64 0) (.int .i64 0) (.int .i64 f) (.bool m) (.int .u64 (a : Int)) (.int .u64 (b : Int)) (.int .u64 (c : Int)) (.int .u64 (d : Int))).three
  obtain ⟨h0, h1, h2, h3, h4, h5, h6, h7, h8, h9, h10, -⟩ := (((R0.out.later K5).set11 (.int .i64 25) (.int .i64 0) (.int .i64 0) (.int .i64 0) (.int .i64 0) (.int .i64 f) (.bool m) (.int .u64 (a : Int)) (.int .u64 (b : Int)) (.int .u64 (c : Int)) (.int .u64 (d : Int))).far3 (h := (w.heap.size + 1)) (by omega) (.bool false) (.int .i64 0) (.int .i64 0)).eleven
  obtain ⟨h11, h12, h13, -⟩ := (((F0.out.later K5).far11 (h := w.heap.size) (by omega) (.int .i64 25) (.int .i64 0) (.int .i64 0) (.int .i64 0) (.int .i64 0) (.int .i64 f) (.bool m) (.int .u64 (a : Int)) (.int .u64 (b : Int)) (.int .u64 (c : Int)) (.int .u64 (d : Int))).set3 (.bool false) (.int .i64 0) (.int .i64 0)).three
  have bb := below_set3 (g := (w.heap.size + 1)) (below_set11 (g := w.heap.size) (B0.out.trans (K5.mono B0.out.size)) (by omega) (.int .i64 25) (.int .i64 0) (.int .i64 0) (.int .i64 0) (.int .i64 0) (.int .i64 f) (.bool m) (.int .u64 (a : Int)) (.int .u64 (b : Int)) (.int .u64 (c : Int)) (.int .u64 (d : Int))) (by omega) (.bool false) (.int .i64 0) (.int .i64 0)
  go_wp2_with fail
  exact bodyPost_ret (v := .tuple #[.agg #[.int .i64 25, .int .i64 0, .int .i64 0, .int .i64 0, .int .i64 0, .int .i64 f, .bool m, .int .u64 (a : Int), .int .u64 (b : Int), .int .u64 (c : Int), .int .u64 (d : Int)], .int .i64 (u : Int), .agg #[.bool false, .int .i64 0, .int .i64 0]]) (by simp [results, Tryz.results143, go_sem, h0, h1, h2, h3, h4, h5, h6, h7, h8, h9, h10, h11, h12, h13]) rfl ⟨rfl, bb⟩
theorem read_25b (ao : Option Addr) (n cap : Nat) (l : List Int) (f : Int) (m : Bool) (a b c d : Nat) (nn u : Nat) (w : World) (hB : Bytes w (.slice ao n cap) l) (hk : be2 l 0 = 25) (h4 : 4 ≤ l.length) (hd : decV (l.drop 4) = .tuple #[ov f m a b c d, .int .i64 (nn : Int), fv false 0 0]) (hnn : nn ≤ 1000) (hu : 4 + nn = u) (hn : n ≠ r8 u) :
    Calls Tryz.prog 143 #[.slice ao n cap] w fun e w' => e = .returned (.tuple #[.agg #[.int .i64 0, .int .i64 0, .int .i64 0, .int .i64 0, .int .i64 0, .int .i64 0, .bool false, .int .u64 0, .int .u64 0, .int .u64 0, .int .u64 0], .int .i64 0, .agg #[.bool true, .int .i64 2, .int .i64 1]]) ∧ Below w.heap.size w w' := by
  have R0 := pjpe0 w
  have F0 := pjpe1 w
  have B0 := pjpe2 w
  have q0 := fun W hW => nget2 _ l 0 W (hB.later (w' := W) hW) (by omega)
  rw [hk] at q0
  have q0 := h_ q0
  have hg0 := pjpe3 w
  have hm := hmB hB
  obtain ⟨ao', -, hsl, hB2⟩ := bytes_slice hB 4 h4
  have hsl : ∀ wx, (Instr.slice 25 (.slice ao n cap) (some (.int .i64 4)) none none).run Tryz.prog wx = .ok (.slice ao' (n - 4) (cap - 4)) wx := hsl
  have qd := fun W hW => odec_any _ _ W (hB2.later (w' := W) hW)
  rw [hd] at qd
  unfold ov fv at qd
  clear hd
  have hw4 : IntKind.i64.wrap (4 + (nn : Int)) = (u : Int) := by rw [IntKind.wrap_i64]; omega
  have qo : Hid (∀ w, Calls Tryz.prog 117 #[.int .i64 (u : Int)] w fun e w' => e = .returned (.int .i64 ((r8 u : Nat) : Int)) ∧ w' = w) := h_ (fun w => round_any u w (by omega))
  have qr := h_ (fun k w => refuse2_any k w)
  unfold fv at qr
  have hn' : ((n : Int) != ((r8 u : Nat) : Int)) = true := by simp; omega
  have hn2 : ((n : Int) == ((r8 u : Nat) : Int)) = false := by simp; omega
  have hn3 : ¬ (n : Int) = ((r8 u : Nat) : Int) := by omega
  generalize r8 u = rr at *
  have qd := h_ qd
  clear hB hB2 hk h4
  go_enter Tryz.func143, Tryz.ntmps143
  go_wp2_with (first | (go_at_call 89; refine (q0.out _ B0.out).mono ?_; rintro e w1 ⟨er, rfl, k1⟩; have K3 : Below ((w.alloc (.cells #[.int .i64 0, .int .i64 0, .int .i64 0, .int .i64 0, .int .i64 0, .int .i64 0, .bool false, .int .u64 0, .int .u64 0, .int .u64 0, .int .u64 0] 61)).alloc (.cells #[.bool false, .int .i64 0, .int .i64 0] 44)).heap.size ((w.alloc (.cells #[.int .i64 0, .int .i64 0, .int .i64 0, .int .i64 0, .int .i64 0, .int .i64 0, .bool false, .int .u64 0, .int .u64 0, .int .u64 0, .int .u64 0] 61)).alloc (.cells #[.bool false, .int .i64 0, .int .i64 0] 44)) (w1.alloc (.cells #[.int .i64 25, .int .i64 0, .int .i64 0, .int .i64 0, .int .i64 0, .int .i64 0, .bool false, .int .u64 0, .int .u64 0, .int .u64 0, .int .u64 0] 61)) := k1.trans ((below1 w1 _).mono k1.size); have hgw := Nat.lt_of_lt_of_le hg0 k1.size) | (go_at_call 166; refine (qd.out _ (B0.out.trans (K3.mono B0.out.size))).mono ?_; rintro e w3 ⟨rfl, b3⟩; have A3 := ((AB.at0 w1 61 [.int .i64 25, .int .i64 0, .int .i64 0, .int .i64 0, .int .i64 0, .int .i64 0, .bool false, .int .u64 0, .int .u64 0, .int .u64 0, .int .u64 0]).later b3); have j3 : Below w3.heap.size w3 ((w3.alloc (.cells #[.int .i64 f, .bool m, .int .u64 (a : Int), .int .u64 (b : Int), .int .u64 (c : Int), .int .u64 (d : Int)] 59)).alloc (.cells #[.bool false, .int .i64 0, .int .i64 0] 44)) := below2 w3 _ _; have K4 := (K3.trans (b3.mono K3.size)).trans (j3.mono (K3.trans (b3.mono K3.size)).size); obtain ⟨e4c0, e4c1, e4c2, e4c3, e4c4, e4c5, e4c6, e4c7, e4c8, e4c9, e4c10, e4c11, e4c12, e4c13, e4c14, e4c15, e4c16, e4c17, e4c18, e4c19, e4c20, e4c21⟩ := (A3.later j3).eleven; have F4 := AB.at1 w3 (.cells #[.int .i64 f, .bool m, .int .u64 (a : Int), .int .u64 (b : Int), .int .u64 (c : Int), .int .u64 (d : Int)] 59) 44 [.bool false, .int .i64 0, .int .i64 0]; have O4 := (AB.at0 w3 59 [.int .i64 f, .bool m, .int .u64 (a : Int), .int .u64 (b : Int), .int .u64 (c : Int), .int .u64 (d : Int)]).alloc (.cells #[.bool false, .int .i64 0, .int .i64 0] 44); obtain ⟨f40, f41, f42, -⟩ := F4.three; obtain ⟨o40, o41, o42, o43, o44, o45, -⟩ := O4.six; have A5 := (A3.later j3).set5 (.int .i64 f) (.bool m) (.int .u64 (a : Int)) (.int .u64 (b : Int)) (.int .u64 (c : Int)) (.int .u64 (d : Int)); have K5 := below_set5 K4 k1.size (.int .i64 f) (.bool m) (.int .u64 (a : Int)) (.int .u64 (b : Int)) (.int .u64 (c : Int)) (.int .u64 (d : Int)); obtain ⟨ac0, ac1, ac2, ac3, ac4, ac5, ac6, ac7, ac8, ac9, ac10, -⟩ := A5.eleven) | (go_at_call 117; refine (qo.out _).mono ?_; rintro e w' ⟨rfl, rfl⟩) | (go_at_call 145; refine (qr.out _ _).mono ?_; rintro e w9 ⟨rfl, b9⟩; have K9 := K5.trans (b9.mono K5.size); obtain ⟨s0, s1, s2, s3, s4, s5, s6, s7, s8, s9, s10, s11, s12, s13, s14, s15, s16, s17, s18, s19, s20, s21⟩ := (R0.out.later K9).eleven; obtain ⟨t0, t1, t2, t3, t4, t5⟩ := ((F0.out.later K9).far11 (h := w.heap.size) (by omega) (.int .i64 0) (.int .i64 0) (.int .i64 0) (.int .i64 0) (.int .i64 0) (.int .i64 0) (.bool false) (.int .u64 0) (.int .u64 0) (.int .u64 0) (.int .u64 0)).three; obtain ⟨h0, h1, h2, h3, h4, h5, h6, h7, h8, h9, h10, -⟩ := (((R0.out.later K9).set11 (.int .i64 0) (.int .i64 0) (.int .i64 0) (.int .i64 0) (.int .i64 0) (.int .i64 0) (.bool false) (.int .u64 0) (.int .u64 0) (.int .u64 0) (.int .u64 0)).far3 (h := (w.heap.size + 1)) (by omega) (.bool true) (.int .i64 2) (.int .i64 1)).eleven; obtain ⟨h11, h12, h13, -⟩ := (((F0.out.later K9).far11 (h := w.heap.size) (by omega) (.int .i64 0) (.int .i64 0) (.int .i64 0) (.int .i64 0) (.int .i64 0) (.int .i64 0) (.bool false) (.int .u64 0) (.int .u64 0) (.int .u64 0) (.int .u64 0)).set3 (.bool true) (.int .i64 2) (.int .i64 1)).three; have bb := below_set3 (g := (w.heap.size + 1)) (below_set11 (g := w.heap.size) (B0.out.trans (K9.mono B0.out.size)) (by omega) (.int .i64 0) (.int .i64 0) (.int .i64 0) (.int .i64 0) (.int .i64 0) (.int .i64 0) (.bool false) (.int .u64 0) (.int .u64 0) (.int .u64 0) (.int .u64 0)) (by omega) (.bool true) (.int .i64 2) (.int .i64 1)))
  exact bodyPost_ret (v := .tuple #[.agg #[.int .i64 0, .int .i64 0, .int .i64 0, .int .i64 0, .int .i64 0, .int .i64 0, .bool false, .int .u64 0, .int .u64 0, .int .u64 0, .int .u64 0], .int .i64 0, .agg #[.bool true, .int .i64 2, .int .i64 1]]) (by simp [results, Tryz.results143, go_sem, h0, h1, h2, h3, h4, h5, h6, h7, h8, h9, h10, h11, h12, h13]) rfl ⟨rfl, bb⟩
theorem kW11_3 {p0 p1 p2 : Addr} {z0 z1 z2 : Value} {x0 x1 x2 x3 x4 x5 x6 x7 x8 x9 x10 : Value} {w0 wa : World} {r : Nat} (h : wa.cell? p0 = some z0 ∧ wa.cell? p1 = some z1 ∧ wa.cell? p2 = some z2 ∧ Below w0.heap.size w0 wa) (hr : w0.heap.size ≤ r) (h0 : r ≠ p0.block) (h1 : r ≠ p1.block) (h2 : r ≠ p2.block) : (((((((((((wa.setCell ⟨r, 0, none⟩ (x0)).setCell ⟨r, 1, none⟩ (x1)).setCell ⟨r, 2, none⟩ (x2)).setCell ⟨r, 3, none⟩ (x3)).setCell ⟨r, 4, none⟩ (x4)).setCell ⟨r, 5, none⟩ (x5)).setCell ⟨r, 6, none⟩ (x6)).setCell ⟨r, 7, none⟩ (x7)).setCell ⟨r, 8, none⟩ (x8)).setCell ⟨r, 9, none⟩ (x9)).setCell ⟨r, 10, none⟩ (x10)).cell? p0 = some z0 ∧ (((((((((((wa.setCell ⟨r, 0, none⟩ (x0)).setCell ⟨r, 1, none⟩ (x1)).setCell ⟨r, 2, none⟩ (x2)).setCell ⟨r, 3, none⟩ (x3)).setCell ⟨r, 4, none⟩ (x4)).setCell ⟨r, 5, none⟩ (x5)).setCell ⟨r, 6, none⟩ (x6)).setCell ⟨r, 7, none⟩ (x7)).setCell ⟨r, 8, none⟩ (x8)).setCell ⟨r, 9, none⟩ (x9)).setCell ⟨r, 10, none⟩ (x10)).cell? p1 = some z1 ∧ (((((((((((wa.setCell ⟨r, 0, none⟩ (x0)).setCell ⟨r, 1, none⟩ (x1)).setCell ⟨r, 2, none⟩ (x2)).setCell ⟨r, 3, none⟩ (x3)).setCell ⟨r, 4, none⟩ (x4)).setCell ⟨r, 5, none⟩ (x5)).setCell ⟨r, 6, none⟩ (x6)).setCell ⟨r, 7, none⟩ (x7)).setCell ⟨r, 8, none⟩ (x8)).setCell ⟨r, 9, none⟩ (x9)).setCell ⟨r, 10, none⟩ (x10)).cell? p2 = some z2 ∧ Below w0.heap.size w0 (((((((((((wa.setCell ⟨r, 0, none⟩ (x0)).setCell ⟨r, 1, none⟩ (x1)).setCell ⟨r, 2, none⟩ (x2)).setCell ⟨r, 3, none⟩ (x3)).setCell ⟨r, 4, none⟩ (x4)).setCell ⟨r, 5, none⟩ (x5)).setCell ⟨r, 6, none⟩ (x6)).setCell ⟨r, 7, none⟩ (x7)).setCell ⟨r, 8, none⟩ (x8)).setCell ⟨r, 9, none⟩ (x9)).setCell ⟨r, 10, none⟩ (x10)) :=
  ⟨(by rw [World.cell?_setCell_far _ ⟨r, 10, none⟩ _ _ h0, World.cell?_setCell_far _ ⟨r, 9, none⟩ _ _ h0, World.cell?_setCell_far _ ⟨r, 8, none⟩ _ _ h0, World.cell?_setCell_far _ ⟨r, 7, none⟩ _ _ h0, World.cell?_setCell_far _ ⟨r, 6, none⟩ _ _ h0, World.cell?_setCell_far _ ⟨r, 5, none⟩ _ _ h0, World.cell?_setCell_far _ ⟨r, 4, none⟩ _ _ h0, World.cell?_setCell_far _ ⟨r, 3, none⟩ _ _ h0, World.cell?_setCell_far _ ⟨r, 2, none⟩ _ _ h0, World.cell?_setCell_far _ ⟨r, 1, none⟩ _ _ h0, World.cell?_setCell_far _ ⟨r, 0, none⟩ _ _ h0]; exact h.1), (by rw [World.cell?_setCell_far _ ⟨r, 10, none⟩ _ _ h1, World.cell?_setCell_far _ ⟨r, 9, none⟩ _ _ h1, World.cell?_setCell_far _ ⟨r, 8, none⟩ _ _ h1, World.cell?_setCell_far _ ⟨r, 7, none⟩ _ _ h1, World.cell?_setCell_far _ ⟨r, 6, none⟩ _ _ h1, World.cell?_setCell_far _ ⟨r, 5, none⟩ _ _ h1, World.cell?_setCell_far _ ⟨r, 4, none⟩ _ _ h1, World.cell?_setCell_far _ ⟨r, 3, none⟩ _ _ h1, World.cell?_setCell_far _ ⟨r, 2, none⟩ _ _ h1, World.cell?_setCell_far _ ⟨r, 1, none⟩ _ _ h1, World.cell?_setCell_far _ ⟨r, 0, none⟩ _ _ h1]; exact h.2.1), (by rw [World.cell?_setCell_far _ ⟨r, 10, none⟩ _ _ h2, World.cell?_setCell_far _ ⟨r, 9, none⟩ _ _ h2, World.cell?_setCell_far _ ⟨r, 8, none⟩ _ _ h2, World.cell?_setCell_far _ ⟨r, 7, none⟩ _ _ h2, World.cell?_setCell_far _ ⟨r, 6, none⟩ _ _ h2, World.cell?_setCell_far _ ⟨r, 5, none⟩ _ _ h2, World.cell?_setCell_far _ ⟨r, 4, none⟩ _ _ h2, World.cell?_setCell_far _ ⟨r, 3, none⟩ _ _ h2, World.cell?_setCell_far _ ⟨r, 2, none⟩ _ _ h2, World.cell?_setCell_far _ ⟨r, 1, none⟩ _ _ h2, World.cell?_setCell_far _ ⟨r, 0, none⟩ _ _ h2]; exact h.2.2.1), below_set11 h.2.2.2 hr _ _ _ _ _ _ _ _ _ _ _⟩
theorem dec_len (v : Value) (tt cc : Int) (w : World) (qL : ∀ W, Below w.heap.size w W → Calls Tryz.prog 142 #[v] W fun e w' => e = .returned (.tuple #[.int .i64 0, .agg #[.bool true, .int .i64 tt, .int .i64 cc]]) ∧ Below W.heap.size W w') :
    Calls Tryz.prog 124 #[v] w fun e w' => e = .returned (.tuple #[.agg #[.int .i64 0, .int .i64 0, .int .i64 0, .int .i64 0, .int .i64 0, .int .i64 0, .bool false, .int .u64 0, .int .u64 0, .int .u64 0, .int .u64 0], .int .i64 0, .agg #[.bool true, .int .i64 tt, .int .i64 cc]]) ∧ Below w.heap.size w w' := by
  have R0 := pjpe0 w
  have F0 := pjpe1 w
  have B0 := pjpe2 w
  have hg0 := pjpe3 w
  have qL := h_ qL
  go_enter Tryz.func124, Tryz.ntmps124
  go_upto_region 3 with (go_at_call 142; refine (qL.out _ B0.out).mono ?_; rintro e w1 ⟨rfl, k1⟩; have K2 : Below ((w.alloc (.cells #[.int .i64 0, .int .i64 0, .int .i64 0, .int .i64 0, .int .i64 0, .int .i64 0, .bool false, .int .u64 0, .int .u64 0, .int .u64 0, .int .u64 0] 61)).alloc (.cells #[.bool false, .int .i64 0, .int .i64 0] 44)).heap.size ((w.alloc (.cells #[.int .i64 0, .int .i64 0, .int .i64 0, .int .i64 0, .int .i64 0, .int .i64 0, .bool false, .int .u64 0, .int .u64 0, .int .u64 0, .int .u64 0] 61)).alloc (.cells #[.bool false, .int .i64 0, .int .i64 0] 44)) (w1.alloc (.cells #[.bool true, .int .i64 tt, .int .i64 cc] 44)) := k1.trans ((below1 w1 _).mono k1.size); have hgw := Nat.lt_of_lt_of_le hg0 k1.size; have F6 := h_ (AB.at0 w1 44 [.bool true, .int .i64 tt, .int .i64 cc]); obtain ⟨fa0, fa1, fa2, -⟩ := F6.out.three)
  have FX := h_ (F6.out)
  have KX := K2
  generalize (w1.alloc (.cells #[.bool true, .int .i64 tt, .int .i64 cc] 44)) = X at *
  have RD := (R0.out.later KX : AB X w.heap.size 61 [.int .i64 0, .int .i64 0, .int .i64 0, .int .i64 0, .int .i64 0, .int .i64 0, .bool false, .int .u64 0, .int .u64 0, .int .u64 0, .int .u64 0])
  have RD : AB X.drew w.heap.size 61 [.int .i64 0, .int .i64 0, .int .i64 0, .int .i64 0, .int .i64 0, .int .i64 0, .bool false, .int .u64 0, .int .u64 0, .int .u64 0, .int .u64 0] := RD
  have FD := (F0.out.later KX : AB X (w.heap.size + 1) 44 [.bool false, .int .i64 0, .int .i64 0])
  have FD : AB X.drew (w.heap.size + 1) 44 [.bool false, .int .i64 0, .int .i64 0] := FD
  obtain ⟨d0, d1, d2, -⟩ := FX.out.three
  obtain ⟨s0, s1, s2, s3, s4, s5, s6, s7, s8, s9, s10, s11, s12, s13, s14, s15, s16, s17, s18, s19, s20, s21⟩ := RD.eleven
  obtain ⟨t0, t1, t2, t3, t4, t5⟩ := (FD.far11 (h := w.heap.size) (by omega) (.int .i64 0) (.int .i64 0) (.int .i64 0) (.int .i64 0) (.int .i64 0) (.int .i64 0) (.bool false) (.int .u64 0) (.int .u64 0) (.int .u64 0) (.int .u64 0)).three
  obtain ⟨h0, h1, h2, h3, h4, h5, h6, h7, h8, h9, h10, -⟩ := ((RD.set11 (.int .i64 0) (.int .i64 0) (.int .i64 0) (.int .i64 0) (.int .i64 0) (.int .i64 0) (.bool false) (.int .u64 0) (.int .u64 0) (.int .u64 0) (.int .u64 0)).far3 (h := (w.heap.size + 1)) (by omega) (.bool true) (.int .i64 tt) (.int .i64 cc)).eleven
  obtain ⟨h11, h12, h13, -⟩ := ((FD.far11 (h := w.heap.size) (by omega) (.int .i64 0) (.int .i64 0) (.int .i64 0) (.int .i64 0) (.int .i64 0) (.int .i64 0) (.bool false) (.int .u64 0) (.int .u64 0) (.int .u64 0) (.int .u64 0)).set3 (.bool true) (.int .i64 tt) (.int .i64 cc)).three
  have BX := B0.out.trans (KX.mono B0.out.size)
  clear fa0 fa1 fa2 F6
  refine wp_region_held_drew (S := (fun w' => w'.cell? ⟨w1.heap.size, 0, none⟩ = some (.bool true) ∧ w'.cell? ⟨w1.heap.size, 1, none⟩ = some (.int .i64 tt) ∧ w'.cell? ⟨w1.heap.size, 2, none⟩ = some (.int .i64 cc) ∧ Below w.heap.size w w')) (by kernel_rfl) (⟨d0, d1, d2, BX.drew⟩) (fun hHeld => ?_)
  generalize X.drew = D at *
  refine tR 0 ?_ (some 16) rfl (by kernel_rfl) rfl (by rfl) ?_ (fun _ _ _ h => h) (by assumption) ?_
  rotate_left
  · intro w hSw; (try dsimp only at hSw); go_simp; (try with_reducible rfl)
  simp only [Act.put, sIb, sCz, sCs]
  refine tR 1 ?_ (some 17) rfl (by kernel_rfl) rfl (by rfl) ?_ (fun _ _ _ h => h) (by assumption) ?_
  rotate_left
  · intro w hSw; (try dsimp only at hSw); go_simp; (try with_reducible rfl)
  simp only [Act.put, sIb, sCz, sCs]
  refine wpAnyH_ready (rs := [2]) (by kernel_rfl) (by simp) ?_
  refine AllReadyH.cons rfl (fun K hK => ?_) (AllReadyH.nil)
  go_simp
  refine hK.out _ _ (kW11_3 hHeld (by omega) (by dsimp only; omega) (by dsimp only; omega) (by dsimp only; omega)) (fun hHeld => ?_)
  clear hK K
  try simp only [Act.put, sIb, sCz, sCs]
  refine tR 3 ?_ (some 3) rfl (by kernel_rfl) rfl (by rfl) ?_ (fun _ _ _ h => h) (by assumption) ?_
  rotate_left
  · intro w hSw; (try dsimp only at hSw); go_simp; (try with_reducible rfl)
  simp only [Act.put, sIb, sCz, sCs]
  refine wpAnyH_ready (rs := [4]) (by kernel_rfl) (by simp) ?_
  refine AllReadyH.cons rfl (fun K hK => ?_) (AllReadyH.nil)
  go_simp
  refine hK.out _ _ (kW3_3 hHeld (by omega) (by dsimp only; omega) (by dsimp only; omega) (by dsimp only; omega)) (fun hHeld => ?_)
  clear hK K
  try simp only [Act.put, sIb, sCz, sCs]
  refine wpAnyH_done (by kernel_rfl) ?_ _
  go_wp2_with fail
  exact bodyPost_ret (v := .tuple #[.agg #[.int .i64 0, .int .i64 0, .int .i64 0, .int .i64 0, .int .i64 0, .int .i64 0, .bool false, .int .u64 0, .int .u64 0, .int .u64 0, .int .u64 0], .int .i64 0, .agg #[.bool true, .int .i64 tt, .int .i64 cc]]) (by simp [results, Tryz.results124, go_sem, h0, h1, h2, h3, h4, h5, h6, h7, h8, h9, h10, h11, h12, h13]) rfl ⟨rfl, hHeld.2.2.2⟩
theorem dec_bad (v : Value) (v1 : Value) (n : Nat) (tt cc : Int) (w : World) (qL : ∀ W, Below w.heap.size w W → Calls Tryz.prog 142 #[v] W fun e w' => e = .returned (.tuple #[.int .i64 (n : Int), .agg #[.bool false, .int .i64 0, .int .i64 0]]) ∧ Below W.heap.size W w') (hs1 : ∀ wx, (Instr.slice 25 v none (some (.int .i64 (n : Int))) none).run Tryz.prog wx = .ok v1 wx) (qR : ∀ W, Below w.heap.size w W → Calls Tryz.prog 143 #[v1] W fun e w' => e = .returned (.tuple #[.agg #[.int .i64 0, .int .i64 0, .int .i64 0, .int .i64 0, .int .i64 0, .int .i64 0, .bool false, .int .u64 0, .int .u64 0, .int .u64 0, .int .u64 0], .int .i64 0, .agg #[.bool true, .int .i64 tt, .int .i64 cc]]) ∧ Below W.heap.size W w') :
    Calls Tryz.prog 124 #[v] w fun e w' => e = .returned (.tuple #[.agg #[.int .i64 0, .int .i64 0, .int .i64 0, .int .i64 0, .int .i64 0, .int .i64 0, .bool false, .int .u64 0, .int .u64 0, .int .u64 0, .int .u64 0], .int .i64 0, .agg #[.bool true, .int .i64 tt, .int .i64 cc]]) ∧ Below w.heap.size w w' := by
  have R0 := pjpe0 w
  have F0 := pjpe1 w
  have B0 := pjpe2 w
  have hg0 := pjpe3 w
  have qL := h_ qL
  have qR := h_ qR
  go_enter Tryz.func124, Tryz.ntmps124
  go_upto_region 6 with (first | (go_at_call 142; refine (qL.out _ B0.out).mono ?_; rintro e w1 ⟨rfl, k1⟩; have K2 : Below ((w.alloc (.cells #[.int .i64 0, .int .i64 0, .int .i64 0, .int .i64 0, .int .i64 0, .int .i64 0, .bool false, .int .u64 0, .int .u64 0, .int .u64 0, .int .u64 0] 61)).alloc (.cells #[.bool false, .int .i64 0, .int .i64 0] 44)).heap.size ((w.alloc (.cells #[.int .i64 0, .int .i64 0, .int .i64 0, .int .i64 0, .int .i64 0, .int .i64 0, .bool false, .int .u64 0, .int .u64 0, .int .u64 0, .int .u64 0] 61)).alloc (.cells #[.bool false, .int .i64 0, .int .i64 0] 44)) (w1.alloc (.cells #[.bool false, .int .i64 0, .int .i64 0] 44)) := k1.trans ((below1 w1 _).mono k1.size); have hgw := Nat.lt_of_lt_of_le hg0 k1.size; have F6 := h_ (AB.at0 w1 44 [.bool false, .int .i64 0, .int .i64 0]); obtain ⟨fa0, fa1, fa2, -⟩ := F6.out.three) | (go_at_call 143; refine (qR.out _ (B0.out.trans (K2.mono B0.out.size))).mono ?_; rintro e w3 ⟨rfl, b3⟩; have j3 : Below (w1.alloc (.cells #[.bool false, .int .i64 0, .int .i64 0] 44)).heap.size (w1.alloc (.cells #[.bool false, .int .i64 0, .int .i64 0] 44)) (w3.alloc (.cells #[.int .i64 0, .int .i64 0, .int .i64 0, .int .i64 0, .int .i64 0, .int .i64 0, .bool false, .int .u64 0, .int .u64 0, .int .u64 0, .int .u64 0] 61)) := b3.trans ((below1 w3 _).mono b3.size); obtain ⟨fb0, fb1, fb2, fb3, fb4, fb5⟩ := (F6.out.later j3).three; have F8 := h_ ((F6.out.later j3).set3 (.bool true) (.int .i64 tt) (.int .i64 cc)); obtain ⟨fc0, fc1, fc2, -⟩ := F8.out.three; have hg3 : Hid (w3.heap.size ≠ w1.heap.size) := h_ (Nat.ne_of_gt (Nat.lt_of_lt_of_le (by simp) b3.size)); have A8 := h_ ((AB.at0 w3 61 [.int .i64 0, .int .i64 0, .int .i64 0, .int .i64 0, .int .i64 0, .int .i64 0, .bool false, .int .u64 0, .int .u64 0, .int .u64 0, .int .u64 0]).far3 (h := w1.heap.size) hg3.out (.bool true) (.int .i64 tt) (.int .i64 cc)); have K4 : Below ((w.alloc (.cells #[.int .i64 0, .int .i64 0, .int .i64 0, .int .i64 0, .int .i64 0, .int .i64 0, .bool false, .int .u64 0, .int .u64 0, .int .u64 0, .int .u64 0] 61)).alloc (.cells #[.bool false, .int .i64 0, .int .i64 0] 44)).heap.size ((w.alloc (.cells #[.int .i64 0, .int .i64 0, .int .i64 0, .int .i64 0, .int .i64 0, .int .i64 0, .bool false, .int .u64 0, .int .u64 0, .int .u64 0, .int .u64 0] 61)).alloc (.cells #[.bool false, .int .i64 0, .int .i64 0] 44)) ((((w3.alloc (.cells #[.int .i64 0, .int .i64 0, .int .i64 0, .int .i64 0, .int .i64 0, .int .i64 0, .bool false, .int .u64 0, .int .u64 0, .int .u64 0, .int .u64 0] 61)).setCell ⟨w1.heap.size, 0, none⟩ (.bool true)).setCell ⟨w1.heap.size, 1, none⟩ (.int .i64 tt)).setCell ⟨w1.heap.size, 2, none⟩ (.int .i64 cc)) := below_set3 (K2.trans (j3.mono K2.size)) k1.size (.bool true) (.int .i64 tt) (.int .i64 cc)))
  have FX := h_ (F8.out)
  have KX := K4
  generalize ((((w3.alloc (.cells #[.int .i64 0, .int .i64 0, .int .i64 0, .int .i64 0, .int .i64 0, .int .i64 0, .bool false, .int .u64 0, .int .u64 0, .int .u64 0, .int .u64 0] 61)).setCell ⟨w1.heap.size, 0, none⟩ (.bool true)).setCell ⟨w1.heap.size, 1, none⟩ (.int .i64 tt)).setCell ⟨w1.heap.size, 2, none⟩ (.int .i64 cc)) = X at *
  have RD := (R0.out.later KX : AB X w.heap.size 61 [.int .i64 0, .int .i64 0, .int .i64 0, .int .i64 0, .int .i64 0, .int .i64 0, .bool false, .int .u64 0, .int .u64 0, .int .u64 0, .int .u64 0])
  have RD : AB X.drew w.heap.size 61 [.int .i64 0, .int .i64 0, .int .i64 0, .int .i64 0, .int .i64 0, .int .i64 0, .bool false, .int .u64 0, .int .u64 0, .int .u64 0, .int .u64 0] := RD
  have FD := (F0.out.later KX : AB X (w.heap.size + 1) 44 [.bool false, .int .i64 0, .int .i64 0])
  have FD : AB X.drew (w.heap.size + 1) 44 [.bool false, .int .i64 0, .int .i64 0] := FD
  obtain ⟨d0, d1, d2, -⟩ := FX.out.three
  obtain ⟨s0, s1, s2, s3, s4, s5, s6, s7, s8, s9, s10, s11, s12, s13, s14, s15, s16, s17, s18, s19, s20, s21⟩ := RD.eleven
  obtain ⟨t0, t1, t2, t3, t4, t5⟩ := (FD.far11 (h := w.heap.size) (by omega) (.int .i64 0) (.int .i64 0) (.int .i64 0) (.int .i64 0) (.int .i64 0) (.int .i64 0) (.bool false) (.int .u64 0) (.int .u64 0) (.int .u64 0) (.int .u64 0)).three
  obtain ⟨h0, h1, h2, h3, h4, h5, h6, h7, h8, h9, h10, -⟩ := ((RD.set11 (.int .i64 0) (.int .i64 0) (.int .i64 0) (.int .i64 0) (.int .i64 0) (.int .i64 0) (.bool false) (.int .u64 0) (.int .u64 0) (.int .u64 0) (.int .u64 0)).far3 (h := (w.heap.size + 1)) (by omega) (.bool true) (.int .i64 tt) (.int .i64 cc)).eleven
  obtain ⟨h11, h12, h13, -⟩ := ((FD.far11 (h := w.heap.size) (by omega) (.int .i64 0) (.int .i64 0) (.int .i64 0) (.int .i64 0) (.int .i64 0) (.int .i64 0) (.bool false) (.int .u64 0) (.int .u64 0) (.int .u64 0) (.int .u64 0)).set3 (.bool true) (.int .i64 tt) (.int .i64 cc)).three
  have BX := B0.out.trans (KX.mono B0.out.size)
  clear fa0 fa1 fa2 fb0 fb1 fb2 fb3 fb4 fb5 fc0 fc1 fc2 F6 F8 A8
  refine wp_region_held_drew (S := (fun w' => w'.cell? ⟨w1.heap.size, 0, none⟩ = some (.bool true) ∧ w'.cell? ⟨w1.heap.size, 1, none⟩ = some (.int .i64 tt) ∧ w'.cell? ⟨w1.heap.size, 2, none⟩ = some (.int .i64 cc) ∧ Below w.heap.size w w')) (by kernel_rfl) (⟨d0, d1, d2, BX.drew⟩) (fun hHeld => ?_)
  generalize X.drew = D at *
  refine tR 0 ?_ (some 28) rfl (by kernel_rfl) rfl (by rfl) ?_ (fun _ _ _ h => h) (by assumption) ?_
  rotate_left
  · intro w hSw; (try dsimp only at hSw); go_simp; (try with_reducible rfl)
  simp only [Act.put, sIb, sCz, sCs]
  refine tR 1 ?_ (some 29) rfl (by kernel_rfl) rfl (by rfl) ?_ (fun _ _ _ h => h) (by assumption) ?_
  rotate_left
  · intro w hSw; (try dsimp only at hSw); go_simp; (try with_reducible rfl)
  simp only [Act.put, sIb, sCz, sCs]
  refine wpAnyH_ready (rs := [2]) (by kernel_rfl) (by simp) ?_
  refine AllReadyH.cons rfl (fun K hK => ?_) (AllReadyH.nil)
  go_simp
  refine hK.out _ _ (kW11_3 hHeld (by omega) (by dsimp only; omega) (by dsimp only; omega) (by dsimp only; omega)) (fun hHeld => ?_)
  clear hK K
  try simp only [Act.put, sIb, sCz, sCs]
  refine tR 3 ?_ (some 3) rfl (by kernel_rfl) rfl (by rfl) ?_ (fun _ _ _ h => h) (by assumption) ?_
  rotate_left
  · intro w hSw; (try dsimp only at hSw); go_simp; (try with_reducible rfl)
  simp only [Act.put, sIb, sCz, sCs]
  refine wpAnyH_ready (rs := [4]) (by kernel_rfl) (by simp) ?_
  refine AllReadyH.cons rfl (fun K hK => ?_) (AllReadyH.nil)
  go_simp
  refine hK.out _ _ (kW3_3 hHeld (by omega) (by dsimp only; omega) (by dsimp only; omega) (by dsimp only; omega)) (fun hHeld => ?_)
  clear hK K
  try simp only [Act.put, sIb, sCz, sCs]
  refine wpAnyH_done (by kernel_rfl) ?_ _
  go_wp2_with fail
  exact bodyPost_ret (v := .tuple #[.agg #[.int .i64 0, .int .i64 0, .int .i64 0, .int .i64 0, .int .i64 0, .int .i64 0, .bool false, .int .u64 0, .int .u64 0, .int .u64 0, .int .u64 0], .int .i64 0, .agg #[.bool true, .int .i64 tt, .int .i64 cc]]) (by simp [results, Tryz.results124, go_sem, h0, h1, h2, h3, h4, h5, h6, h7, h8, h9, h10, h11, h12, h13]) rfl ⟨rfl, hHeld.2.2.2⟩
theorem dec_nz (v : Value) (v1 v2 : Value) (n u : Nat) (k p x q y f : Int) (m : Bool) (a b c d : Nat) (w : World) (qL : ∀ W, Below w.heap.size w W → Calls Tryz.prog 142 #[v] W fun e w' => e = .returned (.tuple #[.int .i64 (n : Int), .agg #[.bool false, .int .i64 0, .int .i64 0]]) ∧ Below W.heap.size W w') (hs1 : ∀ wx, (Instr.slice 25 v none (some (.int .i64 (n : Int))) none).run Tryz.prog wx = .ok v1 wx) (qR : ∀ W, Below w.heap.size w W → Calls Tryz.prog 143 #[v1] W fun e w' => e = .returned (.tuple #[.agg #[.int .i64 k, .int .i64 p, .int .i64 x, .int .i64 q, .int .i64 y, .int .i64 f, .bool m, .int .u64 (a : Int), .int .u64 (b : Int), .int .u64 (c : Int), .int .u64 (d : Int)], .int .i64 (u : Int), .agg #[.bool false, .int .i64 0, .int .i64 0]]) ∧ Below W.heap.size W w') (hs2 : ∀ wx, (Instr.slice 25 v (some (.int .i64 (u : Int))) (some (.int .i64 (n : Int))) none).run Tryz.prog wx = .ok v2 wx) (qC : ∀ W, Below w.heap.size w W → Calls Tryz.prog 121 #[v2, (.func (.func 144) #[] #[])] W fun e w' => e = .returned (.bool true) ∧ Below W.heap.size W w') :
    Calls Tryz.prog 124 #[v] w fun e w' => e = .returned (.tuple #[.agg #[.int .i64 0, .int .i64 0, .int .i64 0, .int .i64 0, .int .i64 0, .int .i64 0, .bool false, .int .u64 0, .int .u64 0, .int .u64 0, .int .u64 0], .int .i64 0, .agg #[.bool true, .int .i64 2, .int .i64 5]]) ∧ Below w.heap.size w w' := by
  have R0 := pjpe0 w
  have F0 := pjpe1 w
  have B0 := pjpe2 w
  have hg0 := pjpe3 w
  have qL := h_ qL
  have qR := h_ qR
  have qC := h_ qC
  have qr := h_ (fun k w => refuse2_any k w)
  unfold fv at qr
  go_enter Tryz.func124, Tryz.ntmps124
  go_wp2_with (first | (go_at_call 142; refine (qL.out _ B0.out).mono ?_; rintro e w1 ⟨rfl, k1⟩; have K2 : Below ((w.alloc (.cells #[.int .i64 0, .int .i64 0, .int .i64 0, .int .i64 0, .int .i64 0, .int .i64 0, .bool false, .int .u64 0, .int .u64 0, .int .u64 0, .int .u64 0] 61)).alloc (.cells #[.bool false, .int .i64 0, .int .i64 0] 44)).heap.size ((w.alloc (.cells #[.int .i64 0, .int .i64 0, .int .i64 0, .int .i64 0, .int .i64 0, .int .i64 0, .bool false, .int .u64 0, .int .u64 0, .int .u64 0, .int .u64 0] 61)).alloc (.cells #[.bool false, .int .i64 0, .int .i64 0] 44)) (w1.alloc (.cells #[.bool false, .int .i64 0, .int .i64 0] 44)) := k1.trans ((below1 w1 _).mono k1.size); have hgw := Nat.lt_of_lt_of_le hg0 k1.size; have F6 := h_ (AB.at0 w1 44 [.bool false, .int .i64 0, .int .i64 0]); obtain ⟨fa0, fa1, fa2, -⟩ := F6.out.three) | (go_at_call 143; refine (qR.out _ (B0.out.trans (K2.mono B0.out.size))).mono ?_; rintro e w3 ⟨rfl, b3⟩; have j3 : Below (w1.alloc (.cells #[.bool false, .int .i64 0, .int .i64 0] 44)).heap.size (w1.alloc (.cells #[.bool false, .int .i64 0, .int .i64 0] 44)) (w3.alloc (.cells #[.int .i64 k, .int .i64 p, .int .i64 x, .int .i64 q, .int .i64 y, .int .i64 f, .bool m, .int .u64 (a : Int), .int .u64 (b : Int), .int .u64 (c : Int), .int .u64 (d : Int)] 61)) := b3.trans ((below1 w3 _).mono b3.size); obtain ⟨fb0, fb1, fb2, fb3, fb4, fb5⟩ := (F6.out.later j3).three; have F8 := h_ ((F6.out.later j3).set3 (.bool false) (.int .i64 0) (.int .i64 0)); obtain ⟨fc0, fc1, fc2, -⟩ := F8.out.three; have hg3 : Hid (w3.heap.size ≠ w1.heap.size) := h_ (Nat.ne_of_gt (Nat.lt_of_lt_of_le (by simp) b3.size)); have A8 := h_ ((AB.at0 w3 61 [.int .i64 k, .int .i64 p, .int .i64 x, .int .i64 q, .int .i64 y, .int .i64 f, .bool m, .int .u64 (a : Int), .int .u64 (b : Int), .int .u64 (c : Int), .int .u64 (d : Int)]).far3 (h := w1.heap.size) hg3.out (.bool false) (.int .i64 0) (.int .i64 0)); have K4 : Below ((w.alloc (.cells #[.int .i64 0, .int .i64 0, .int .i64 0, .int .i64 0, .int .i64 0, .int .i64 0, .bool false, .int .u64 0, .int .u64 0, .int .u64 0, .int .u64 0] 61)).alloc (.cells #[.bool false, .int .i64 0, .int .i64 0] 44)).heap.size ((w.alloc (.cells #[.int .i64 0, .int .i64 0, .int .i64 0, .int .i64 0, .int .i64 0, .int .i64 0, .bool false, .int .u64 0, .int .u64 0, .int .u64 0, .int .u64 0] 61)).alloc (.cells #[.bool false, .int .i64 0, .int .i64 0] 44)) ((((w3.alloc (.cells #[.int .i64 k, .int .i64 p, .int .i64 x, .int .i64 q, .int .i64 y, .int .i64 f, .bool m, .int .u64 (a : Int), .int .u64 (b : Int), .int .u64 (c : Int), .int .u64 (d : Int)] 61)).setCell ⟨w1.heap.size, 0, none⟩ (.bool false)).setCell ⟨w1.heap.size, 1, none⟩ (.int .i64 0)).setCell ⟨w1.heap.size, 2, none⟩ (.int .i64 0)) := below_set3 (K2.trans (j3.mono K2.size)) k1.size (.bool false) (.int .i64 0) (.int .i64 0)) | (go_at_call 121; refine (qC.out _ (B0.out.trans (K4.mono B0.out.size))).mono ?_; rintro e w5 ⟨rfl, b5⟩; have K5 := K4.trans (b5.mono K4.size); obtain ⟨g0, g1, g2, g3, g4, g5, g6, g7, g8, g9, g10, -⟩ := (A8.out.later b5).eleven; obtain ⟨fd0, fd1, fd2, fd3, fd4, fd5⟩ := (F8.out.later b5).three) | (go_at_call 145; refine (qr.out _ _).mono ?_; rintro e w9 ⟨rfl, b9⟩; have K9 := K5.trans (b9.mono K5.size); obtain ⟨s0, s1, s2, s3, s4, s5, s6, s7, s8, s9, s10, s11, s12, s13, s14, s15, s16, s17, s18, s19, s20, s21⟩ := (R0.out.later K9).eleven; obtain ⟨t0, t1, t2, t3, t4, t5⟩ := ((F0.out.later K9).far11 (h := w.heap.size) (by omega) (.int .i64 0) (.int .i64 0) (.int .i64 0) (.int .i64 0) (.int .i64 0) (.int .i64 0) (.bool false) (.int .u64 0) (.int .u64 0) (.int .u64 0) (.int .u64 0)).three; obtain ⟨h0, h1, h2, h3, h4, h5, h6, h7, h8, h9, h10, -⟩ := (((R0.out.later K9).set11 (.int .i64 0) (.int .i64 0) (.int .i64 0) (.int .i64 0) (.int .i64 0) (.int .i64 0) (.bool false) (.int .u64 0) (.int .u64 0) (.int .u64 0) (.int .u64 0)).far3 (h := (w.heap.size + 1)) (by omega) (.bool true) (.int .i64 2) (.int .i64 5)).eleven; obtain ⟨h11, h12, h13, -⟩ := (((F0.out.later K9).far11 (h := w.heap.size) (by omega) (.int .i64 0) (.int .i64 0) (.int .i64 0) (.int .i64 0) (.int .i64 0) (.int .i64 0) (.bool false) (.int .u64 0) (.int .u64 0) (.int .u64 0) (.int .u64 0)).set3 (.bool true) (.int .i64 2) (.int .i64 5)).three; have bb := below_set3 (g := (w.heap.size + 1)) (below_set11 (g := w.heap.size) (B0.out.trans (K9.mono B0.out.size)) (by omega) (.int .i64 0) (.int .i64 0) (.int .i64 0) (.int .i64 0) (.int .i64 0) (.int .i64 0) (.bool false) (.int .u64 0) (.int .u64 0) (.int .u64 0) (.int .u64 0)) (by omega) (.bool true) (.int .i64 2) (.int .i64 5)))
  exact bodyPost_ret (v := .tuple #[.agg #[.int .i64 0, .int .i64 0, .int .i64 0, .int .i64 0, .int .i64 0, .int .i64 0, .bool false, .int .u64 0, .int .u64 0, .int .u64 0, .int .u64 0], .int .i64 0, .agg #[.bool true, .int .i64 2, .int .i64 5]]) (by simp [results, Tryz.results124, go_sem, h0, h1, h2, h3, h4, h5, h6, h7, h8, h9, h10, h11, h12, h13]) rfl ⟨rfl, bb⟩
theorem dec_chk (v : Value) (v1 v2 : Value) (n u : Nat) (k p x q y f : Int) (m : Bool) (a b c d : Nat) (tt cc : Int) (w : World) (qL : ∀ W, Below w.heap.size w W → Calls Tryz.prog 142 #[v] W fun e w' => e = .returned (.tuple #[.int .i64 (n : Int), .agg #[.bool false, .int .i64 0, .int .i64 0]]) ∧ Below W.heap.size W w') (hs1 : ∀ wx, (Instr.slice 25 v none (some (.int .i64 (n : Int))) none).run Tryz.prog wx = .ok v1 wx) (qR : ∀ W, Below w.heap.size w W → Calls Tryz.prog 143 #[v1] W fun e w' => e = .returned (.tuple #[.agg #[.int .i64 k, .int .i64 p, .int .i64 x, .int .i64 q, .int .i64 y, .int .i64 f, .bool m, .int .u64 (a : Int), .int .u64 (b : Int), .int .u64 (c : Int), .int .u64 (d : Int)], .int .i64 (u : Int), .agg #[.bool false, .int .i64 0, .int .i64 0]]) ∧ Below W.heap.size W w') (hs2 : ∀ wx, (Instr.slice 25 v (some (.int .i64 (u : Int))) (some (.int .i64 (n : Int))) none).run Tryz.prog wx = .ok v2 wx) (qC : ∀ W, Below w.heap.size w W → Calls Tryz.prog 121 #[v2, (.func (.func 144) #[] #[])] W fun e w' => e = .returned (.bool false) ∧ Below W.heap.size W w') (qK : ∀ w, Calls Tryz.prog 138 #[.agg #[.int .i64 k, .int .i64 p, .int .i64 x, .int .i64 q, .int .i64 y, .int .i64 f, .bool m, .int .u64 (a : Int), .int .u64 (b : Int), .int .u64 (c : Int), .int .u64 (d : Int)]] w fun e w' => e = .returned (.agg #[.bool true, .int .i64 tt, .int .i64 cc]) ∧ Below w.heap.size w w') :
    Calls Tryz.prog 124 #[v] w fun e w' => e = .returned (.tuple #[.agg #[.int .i64 0, .int .i64 0, .int .i64 0, .int .i64 0, .int .i64 0, .int .i64 0, .bool false, .int .u64 0, .int .u64 0, .int .u64 0, .int .u64 0], .int .i64 0, .agg #[.bool true, .int .i64 tt, .int .i64 cc]]) ∧ Below w.heap.size w w' := by
  have R0 := pjpe0 w
  have F0 := pjpe1 w
  have B0 := pjpe2 w
  have hg0 := pjpe3 w
  have qL := h_ qL
  have qR := h_ qR
  have qC := h_ qC
  have qK := h_ qK
  go_enter Tryz.func124, Tryz.ntmps124
  go_upto_region 11 with (first | (go_at_call 142; refine (qL.out _ B0.out).mono ?_; rintro e w1 ⟨rfl, k1⟩; have K2 : Below ((w.alloc (.cells #[.int .i64 0, .int .i64 0, .int .i64 0, .int .i64 0, .int .i64 0, .int .i64 0, .bool false, .int .u64 0, .int .u64 0, .int .u64 0, .int .u64 0] 61)).alloc (.cells #[.bool false, .int .i64 0, .int .i64 0] 44)).heap.size ((w.alloc (.cells #[.int .i64 0, .int .i64 0, .int .i64 0, .int .i64 0, .int .i64 0, .int .i64 0, .bool false, .int .u64 0, .int .u64 0, .int .u64 0, .int .u64 0] 61)).alloc (.cells #[.bool false, .int .i64 0, .int .i64 0] 44)) (w1.alloc (.cells #[.bool false, .int .i64 0, .int .i64 0] 44)) := k1.trans ((below1 w1 _).mono k1.size); have hgw := Nat.lt_of_lt_of_le hg0 k1.size; have F6 := h_ (AB.at0 w1 44 [.bool false, .int .i64 0, .int .i64 0]); obtain ⟨fa0, fa1, fa2, -⟩ := F6.out.three) | (go_at_call 143; refine (qR.out _ (B0.out.trans (K2.mono B0.out.size))).mono ?_; rintro e w3 ⟨rfl, b3⟩; have j3 : Below (w1.alloc (.cells #[.bool false, .int .i64 0, .int .i64 0] 44)).heap.size (w1.alloc (.cells #[.bool false, .int .i64 0, .int .i64 0] 44)) (w3.alloc (.cells #[.int .i64 k, .int .i64 p, .int .i64 x, .int .i64 q, .int .i64 y, .int .i64 f, .bool m, .int .u64 (a : Int), .int .u64 (b : Int), .int .u64 (c : Int), .int .u64 (d : Int)] 61)) := b3.trans ((below1 w3 _).mono b3.size); obtain ⟨fb0, fb1, fb2, fb3, fb4, fb5⟩ := (F6.out.later j3).three; have F8 := h_ ((F6.out.later j3).set3 (.bool false) (.int .i64 0) (.int .i64 0)); obtain ⟨fc0, fc1, fc2, -⟩ := F8.out.three; have hg3 : Hid (w3.heap.size ≠ w1.heap.size) := h_ (Nat.ne_of_gt (Nat.lt_of_lt_of_le (by simp) b3.size)); have A8 := h_ ((AB.at0 w3 61 [.int .i64 k, .int .i64 p, .int .i64 x, .int .i64 q, .int .i64 y, .int .i64 f, .bool m, .int .u64 (a : Int), .int .u64 (b : Int), .int .u64 (c : Int), .int .u64 (d : Int)]).far3 (h := w1.heap.size) hg3.out (.bool false) (.int .i64 0) (.int .i64 0)); have K4 : Below ((w.alloc (.cells #[.int .i64 0, .int .i64 0, .int .i64 0, .int .i64 0, .int .i64 0, .int .i64 0, .bool false, .int .u64 0, .int .u64 0, .int .u64 0, .int .u64 0] 61)).alloc (.cells #[.bool false, .int .i64 0, .int .i64 0] 44)).heap.size ((w.alloc (.cells #[.int .i64 0, .int .i64 0, .int .i64 0, .int .i64 0, .int .i64 0, .int .i64 0, .bool false, .int .u64 0, .int .u64 0, .int .u64 0, .int .u64 0] 61)).alloc (.cells #[.bool false, .int .i64 0, .int .i64 0] 44)) ((((w3.alloc (.cells #[.int .i64 k, .int .i64 p, .int .i64 x, .int .i64 q, .int .i64 y, .int .i64 f, .bool m, .int .u64 (a : Int), .int .u64 (b : Int), .int .u64 (c : Int), .int .u64 (d : Int)] 61)).setCell ⟨w1.heap.size, 0, none⟩ (.bool false)).setCell ⟨w1.heap.size, 1, none⟩ (.int .i64 0)).setCell ⟨w1.heap.size, 2, none⟩ (.int .i64 0)) := below_set3 (K2.trans (j3.mono K2.size)) k1.size (.bool false) (.int .i64 0) (.int .i64 0)) | (go_at_call 121; refine (qC.out _ (B0.out.trans (K4.mono B0.out.size))).mono ?_; rintro e w5 ⟨rfl, b5⟩; have K5 := K4.trans (b5.mono K4.size); obtain ⟨g0, g1, g2, g3, g4, g5, g6, g7, g8, g9, g10, -⟩ := (A8.out.later b5).eleven; obtain ⟨fd0, fd1, fd2, fd3, fd4, fd5⟩ := (F8.out.later b5).three) | (go_at_call 138; refine (qK.out _).mono ?_; rintro e w6 ⟨rfl, b6⟩; have A9 := h_ (((A8.out.later b5).later b6).far3 (h := w1.heap.size) hg3.out (.bool true) (.int .i64 tt) (.int .i64 cc)); obtain ⟨fe0, fe1, fe2, fe3, fe4, fe5⟩ := ((F8.out.later b5).later b6).three; have F9 := h_ (((F8.out.later b5).later b6).set3 (.bool true) (.int .i64 tt) (.int .i64 cc)); obtain ⟨ff0, ff1, ff2, -⟩ := F9.out.three; have K7 : Below ((w.alloc (.cells #[.int .i64 0, .int .i64 0, .int .i64 0, .int .i64 0, .int .i64 0, .int .i64 0, .bool false, .int .u64 0, .int .u64 0, .int .u64 0, .int .u64 0] 61)).alloc (.cells #[.bool false, .int .i64 0, .int .i64 0] 44)).heap.size ((w.alloc (.cells #[.int .i64 0, .int .i64 0, .int .i64 0, .int .i64 0, .int .i64 0, .int .i64 0, .bool false, .int .u64 0, .int .u64 0, .int .u64 0, .int .u64 0] 61)).alloc (.cells #[.bool false, .int .i64 0, .int .i64 0] 44)) (((w6.setCell ⟨w1.heap.size, 0, none⟩ (.bool true)).setCell ⟨w1.heap.size, 1, none⟩ (.int .i64 tt)).setCell ⟨w1.heap.size, 2, none⟩ (.int .i64 cc)) := below_set3 (K5.trans (b6.mono K5.size)) k1.size (.bool true) (.int .i64 tt) (.int .i64 cc)))
  have FX := h_ (F9.out)
  have KX := K7
  generalize (((w6.setCell ⟨w1.heap.size, 0, none⟩ (.bool true)).setCell ⟨w1.heap.size, 1, none⟩ (.int .i64 tt)).setCell ⟨w1.heap.size, 2, none⟩ (.int .i64 cc)) = X at *
  have RD := (R0.out.later KX : AB X w.heap.size 61 [.int .i64 0, .int .i64 0, .int .i64 0, .int .i64 0, .int .i64 0, .int .i64 0, .bool false, .int .u64 0, .int .u64 0, .int .u64 0, .int .u64 0])
  have RD : AB X.drew w.heap.size 61 [.int .i64 0, .int .i64 0, .int .i64 0, .int .i64 0, .int .i64 0, .int .i64 0, .bool false, .int .u64 0, .int .u64 0, .int .u64 0, .int .u64 0] := RD
  have FD := (F0.out.later KX : AB X (w.heap.size + 1) 44 [.bool false, .int .i64 0, .int .i64 0])
  have FD : AB X.drew (w.heap.size + 1) 44 [.bool false, .int .i64 0, .int .i64 0] := FD
  obtain ⟨d0, d1, d2, -⟩ := FX.out.three
  obtain ⟨s0, s1, s2, s3, s4, s5, s6, s7, s8, s9, s10, s11, s12, s13, s14, s15, s16, s17, s18, s19, s20, s21⟩ := RD.eleven
  obtain ⟨t0, t1, t2, t3, t4, t5⟩ := (FD.far11 (h := w.heap.size) (by omega) (.int .i64 0) (.int .i64 0) (.int .i64 0) (.int .i64 0) (.int .i64 0) (.int .i64 0) (.bool false) (.int .u64 0) (.int .u64 0) (.int .u64 0) (.int .u64 0)).three
  obtain ⟨h0, h1, h2, h3, h4, h5, h6, h7, h8, h9, h10, -⟩ := ((RD.set11 (.int .i64 0) (.int .i64 0) (.int .i64 0) (.int .i64 0) (.int .i64 0) (.int .i64 0) (.bool false) (.int .u64 0) (.int .u64 0) (.int .u64 0) (.int .u64 0)).far3 (h := (w.heap.size + 1)) (by omega) (.bool true) (.int .i64 tt) (.int .i64 cc)).eleven
  obtain ⟨h11, h12, h13, -⟩ := ((FD.far11 (h := w.heap.size) (by omega) (.int .i64 0) (.int .i64 0) (.int .i64 0) (.int .i64 0) (.int .i64 0) (.int .i64 0) (.bool false) (.int .u64 0) (.int .u64 0) (.int .u64 0) (.int .u64 0)).set3 (.bool true) (.int .i64 tt) (.int .i64 cc)).three
  have BX := B0.out.trans (KX.mono B0.out.size)
  clear fa0 fa1 fa2 fb0 fb1 fb2 fb3 fb4 fb5 fc0 fc1 fc2 fd0 fd1 fd2 fd3 fd4 fd5 fe0 fe1 fe2 fe3 fe4 fe5 ff0 ff1 ff2 F6 F8 g0 g1 g2 g3 g4 g5 g6 g7 g8 g9 g10 A8 A9 F9
  refine wp_region_held_drew (S := (fun w' => w'.cell? ⟨w1.heap.size, 0, none⟩ = some (.bool true) ∧ w'.cell? ⟨w1.heap.size, 1, none⟩ = some (.int .i64 tt) ∧ w'.cell? ⟨w1.heap.size, 2, none⟩ = some (.int .i64 cc) ∧ Below w.heap.size w w')) (by kernel_rfl) (⟨d0, d1, d2, BX.drew⟩) (fun hHeld => ?_)
  generalize X.drew = D at *
  refine tR 0 ?_ (some 41) rfl (by kernel_rfl) rfl (by rfl) ?_ (fun _ _ _ h => h) (by assumption) ?_
  rotate_left
  · intro w hSw; (try dsimp only at hSw); go_simp; (try with_reducible rfl)
  simp only [Act.put, sIb, sCz, sCs]
  refine tR 1 ?_ (some 42) rfl (by kernel_rfl) rfl (by rfl) ?_ (fun _ _ _ h => h) (by assumption) ?_
  rotate_left
  · intro w hSw; (try dsimp only at hSw); go_simp; (try with_reducible rfl)
  simp only [Act.put, sIb, sCz, sCs]
  refine wpAnyH_ready (rs := [2]) (by kernel_rfl) (by simp) ?_
  refine AllReadyH.cons rfl (fun K hK => ?_) (AllReadyH.nil)
  go_simp
  refine hK.out _ _ (kW11_3 hHeld (by omega) (by dsimp only; omega) (by dsimp only; omega) (by dsimp only; omega)) (fun hHeld => ?_)
  clear hK K
  try simp only [Act.put, sIb, sCz, sCs]
  refine tR 3 ?_ (some 3) rfl (by kernel_rfl) rfl (by rfl) ?_ (fun _ _ _ h => h) (by assumption) ?_
  rotate_left
  · intro w hSw; (try dsimp only at hSw); go_simp; (try with_reducible rfl)
  simp only [Act.put, sIb, sCz, sCs]
  refine wpAnyH_ready (rs := [4]) (by kernel_rfl) (by simp) ?_
  refine AllReadyH.cons rfl (fun K hK => ?_) (AllReadyH.nil)
  go_simp
  refine hK.out _ _ (kW3_3 hHeld (by omega) (by dsimp only; omega) (by dsimp only; omega) (by dsimp only; omega)) (fun hHeld => ?_)
  clear hK K
  try simp only [Act.put, sIb, sCz, sCs]
  refine wpAnyH_done (by kernel_rfl) ?_ _
  go_wp2_with fail
  exact bodyPost_ret (v := .tuple #[.agg #[.int .i64 0, .int .i64 0, .int .i64 0, .int .i64 0, .int .i64 0, .int .i64 0, .bool false, .int .u64 0, .int .u64 0, .int .u64 0, .int .u64 0], .int .i64 0, .agg #[.bool true, .int .i64 tt, .int .i64 cc]]) (by simp [results, Tryz.results124, go_sem, h0, h1, h2, h3, h4, h5, h6, h7, h8, h9, h10, h11, h12, h13]) rfl ⟨rfl, hHeld.2.2.2⟩
theorem dec_ok (v : Value) (v1 v2 : Value) (n u : Nat) (k p x q y f : Int) (m : Bool) (a b c d : Nat) (w : World) (qL : ∀ W, Below w.heap.size w W → Calls Tryz.prog 142 #[v] W fun e w' => e = .returned (.tuple #[.int .i64 (n : Int), .agg #[.bool false, .int .i64 0, .int .i64 0]]) ∧ Below W.heap.size W w') (hs1 : ∀ wx, (Instr.slice 25 v none (some (.int .i64 (n : Int))) none).run Tryz.prog wx = .ok v1 wx) (qR : ∀ W, Below w.heap.size w W → Calls Tryz.prog 143 #[v1] W fun e w' => e = .returned (.tuple #[.agg #[.int .i64 k, .int .i64 p, .int .i64 x, .int .i64 q, .int .i64 y, .int .i64 f, .bool m, .int .u64 (a : Int), .int .u64 (b : Int), .int .u64 (c : Int), .int .u64 (d : Int)], .int .i64 (u : Int), .agg #[.bool false, .int .i64 0, .int .i64 0]]) ∧ Below W.heap.size W w') (hs2 : ∀ wx, (Instr.slice 25 v (some (.int .i64 (u : Int))) (some (.int .i64 (n : Int))) none).run Tryz.prog wx = .ok v2 wx) (qC : ∀ W, Below w.heap.size w W → Calls Tryz.prog 121 #[v2, (.func (.func 144) #[] #[])] W fun e w' => e = .returned (.bool false) ∧ Below W.heap.size W w') (qK : ∀ w, Calls Tryz.prog 138 #[.agg #[.int .i64 k, .int .i64 p, .int .i64 x, .int .i64 q, .int .i64 y, .int .i64 f, .bool m, .int .u64 (a : Int), .int .u64 (b : Int), .int .u64 (c : Int), .int .u64 (d : Int)]] w fun e w' => e = .returned (.agg #[.bool false, .int .i64 0, .int .i64 0]) ∧ Below w.heap.size w w') :
    Calls Tryz.prog 124 #[v] w fun e w' => e = .returned (.tuple #[.agg #[.int .i64 k, .int .i64 p, .int .i64 x, .int .i64 q, .int .i64 y, .int .i64 f, .bool m, .int .u64 (a : Int), .int .u64 (b : Int), .int .u64 (c : Int), .int .u64 (d : Int)], .int .i64 (n : Int), .agg #[.bool false, .int .i64 0, .int .i64 0]]) ∧ Below w.heap.size w w' := by
  have R0 := pjpe0 w
  have F0 := pjpe1 w
  have B0 := pjpe2 w
  have hg0 := pjpe3 w
  have qL := h_ qL
  have qR := h_ qR
  have qC := h_ qC
  have qK := h_ qK
  go_enter Tryz.func124, Tryz.ntmps124
  go_upto_region 12 with (first | (go_at_call 142; refine (qL.out _ B0.out).mono ?_; rintro e w1 ⟨rfl, k1⟩; have K2 : Below ((w.alloc (.cells #[.int .i64 0, .int .i64 0, .int .i64 0, .int .i64 0, .int .i64 0, .int .i64 0, .bool false, .int .u64 0, .int .u64 0, .int .u64 0, .int .u64 0] 61)).alloc (.cells #[.bool false, .int .i64 0, .int .i64 0] 44)).heap.size ((w.alloc (.cells #[.int .i64 0, .int .i64 0, .int .i64 0, .int .i64 0, .int .i64 0, .int .i64 0, .bool false, .int .u64 0, .int .u64 0, .int .u64 0, .int .u64 0] 61)).alloc (.cells #[.bool false, .int .i64 0, .int .i64 0] 44)) (w1.alloc (.cells #[.bool false, .int .i64 0, .int .i64 0] 44)) := k1.trans ((below1 w1 _).mono k1.size); have hgw := Nat.lt_of_lt_of_le hg0 k1.size; have F6 := h_ (AB.at0 w1 44 [.bool false, .int .i64 0, .int .i64 0]); obtain ⟨fa0, fa1, fa2, -⟩ := F6.out.three) | (go_at_call 143; refine (qR.out _ (B0.out.trans (K2.mono B0.out.size))).mono ?_; rintro e w3 ⟨rfl, b3⟩; have j3 : Below (w1.alloc (.cells #[.bool false, .int .i64 0, .int .i64 0] 44)).heap.size (w1.alloc (.cells #[.bool false, .int .i64 0, .int .i64 0] 44)) (w3.alloc (.cells #[.int .i64 k, .int .i64 p, .int .i64 x, .int .i64 q, .int .i64 y, .int .i64 f, .bool m, .int .u64 (a : Int), .int .u64 (b : Int), .int .u64 (c : Int), .int .u64 (d : Int)] 61)) := b3.trans ((below1 w3 _).mono b3.size); obtain ⟨fb0, fb1, fb2, fb3, fb4, fb5⟩ := (F6.out.later j3).three; have F8 := h_ ((F6.out.later j3).set3 (.bool false) (.int .i64 0) (.int .i64 0)); obtain ⟨fc0, fc1, fc2, -⟩ := F8.out.three; have hg3 : Hid (w3.heap.size ≠ w1.heap.size) := h_ (Nat.ne_of_gt (Nat.lt_of_lt_of_le (by simp) b3.size)); have A8 := h_ ((AB.at0 w3 61 [.int .i64 k, .int .i64 p, .int .i64 x, .int .i64 q, .int .i64 y, .int .i64 f, .bool m, .int .u64 (a : Int), .int .u64 (b : Int), .int .u64 (c : Int), .int .u64 (d : Int)]).far3 (h := w1.heap.size) hg3.out (.bool false) (.int .i64 0) (.int .i64 0)); have K4 : Below ((w.alloc (.cells #[.int .i64 0, .int .i64 0, .int .i64 0, .int .i64 0, .int .i64 0, .int .i64 0, .bool false, .int .u64 0, .int .u64 0, .int .u64 0, .int .u64 0] 61)).alloc (.cells #[.bool false, .int .i64 0, .int .i64 0] 44)).heap.size ((w.alloc (.cells #[.int .i64 0, .int .i64 0, .int .i64 0, .int .i64 0, .int .i64 0, .int .i64 0, .bool false, .int .u64 0, .int .u64 0, .int .u64 0, .int .u64 0] 61)).alloc (.cells #[.bool false, .int .i64 0, .int .i64 0] 44)) ((((w3.alloc (.cells #[.int .i64 k, .int .i64 p, .int .i64 x, .int .i64 q, .int .i64 y, .int .i64 f, .bool m, .int .u64 (a : Int), .int .u64 (b : Int), .int .u64 (c : Int), .int .u64 (d : Int)] 61)).setCell ⟨w1.heap.size, 0, none⟩ (.bool false)).setCell ⟨w1.heap.size, 1, none⟩ (.int .i64 0)).setCell ⟨w1.heap.size, 2, none⟩ (.int .i64 0)) := below_set3 (K2.trans (j3.mono K2.size)) k1.size (.bool false) (.int .i64 0) (.int .i64 0)) | (go_at_call 121; refine (qC.out _ (B0.out.trans (K4.mono B0.out.size))).mono ?_; rintro e w5 ⟨rfl, b5⟩; have K5 := K4.trans (b5.mono K4.size); obtain ⟨g0, g1, g2, g3, g4, g5, g6, g7, g8, g9, g10, -⟩ := (A8.out.later b5).eleven; obtain ⟨fd0, fd1, fd2, fd3, fd4, fd5⟩ := (F8.out.later b5).three) | (go_at_call 138; refine (qK.out _).mono ?_; rintro e w6 ⟨rfl, b6⟩; have A9 := h_ (((A8.out.later b5).later b6).far3 (h := w1.heap.size) hg3.out (.bool false) (.int .i64 0) (.int .i64 0)); obtain ⟨fe0, fe1, fe2, fe3, fe4, fe5⟩ := ((F8.out.later b5).later b6).three; have F9 := h_ (((F8.out.later b5).later b6).set3 (.bool false) (.int .i64 0) (.int .i64 0)); obtain ⟨ff0, ff1, ff2, -⟩ := F9.out.three; have K7 : Below ((w.alloc (.cells #[.int .i64 0, .int .i64 0, .int .i64 0, .int .i64 0, .int .i64 0, .int .i64 0, .bool false, .int .u64 0, .int .u64 0, .int .u64 0, .int .u64 0] 61)).alloc (.cells #[.bool false, .int .i64 0, .int .i64 0] 44)).heap.size ((w.alloc (.cells #[.int .i64 0, .int .i64 0, .int .i64 0, .int .i64 0, .int .i64 0, .int .i64 0, .bool false, .int .u64 0, .int .u64 0, .int .u64 0, .int .u64 0] 61)).alloc (.cells #[.bool false, .int .i64 0, .int .i64 0] 44)) (((w6.setCell ⟨w1.heap.size, 0, none⟩ (.bool false)).setCell ⟨w1.heap.size, 1, none⟩ (.int .i64 0)).setCell ⟨w1.heap.size, 2, none⟩ (.int .i64 0)) := below_set3 (K5.trans (b6.mono K5.size)) k1.size (.bool false) (.int .i64 0) (.int .i64 0)))
  clear fa0 fa1 fa2 fb0 fb1 fb2 fb3 fb4 fb5 fc0 fc1 fc2 fd0 fd1 fd2 fd3 fd4 fd5 fe0 fe1 fe2 fe3 fe4 fe5 ff0 ff1 ff2 F6 F8 g0 g1 g2 g3 g4 g5 g6 g7 g8 g9 g10
  generalize (((w6.setCell ⟨w1.heap.size, 0, none⟩ (.bool false)).setCell ⟨w1.heap.size, 1, none⟩ (.int .i64 0)).setCell ⟨w1.heap.size, 2, none⟩ (.int .i64 0)) = Y at *
  obtain ⟨g0, g1, g2, g3, g4, g5, g6, g7, g8, g9, g10, -⟩ := A9.out.eleven
  obtain ⟨s0, s1, s2, s3, s4, s5, s6, s7, s8, s9, s10, s11, s12, s13, s14, s15, s16, s17, s18, s19, s20, s21⟩ := (R0.out.later K7).eleven
  obtain ⟨t0, t1, t2, t3, t4, t5⟩ := ((F0.out.later K7).far11 (h := w.heap.size) (by omega) (.int .i64 k) (.int .i64 p) (.int .i64 x) (.int .i64 q) (.int .i64 y) (.int .i64 f) (.bool m) (.int .u64 (a : Int)) (.int .u64 (b : Int)) (.int .u64 (c : Int)) (.int .u64 (d : Int))).three
  obtain ⟨h0, h1, h2, h3, h4, h5, h6, h7, h8, h9, h10, -⟩ := (((R0.out.later K7).set11 (.int .i64 k) (.int .i64 p) (.int .i64 x) (.int .i64 q) (.int .i64 y) (.int .i64 f) (.bool m) (.int .u64 (a : Int)) (.int .u64 (b : Int)) (.int .u64 (c : Int)) (.int .u64 (d : Int))).far3 (h := (w.heap.size + 1)) (by omega) (.bool false) (.int .i64 0) (.int .i64 0)).eleven
  obtain ⟨h11, h12, h13, -⟩ := (((F0.out.later K7).far11 (h := w.heap.size) (by omega) (.int .i64 k) (.int .i64 p) (.int .i64 x) (.int .i64 q) (.int .i64 y) (.int .i64 f) (.bool m) (.int .u64 (a : Int)) (.int .u64 (b : Int)) (.int .u64 (c : Int)) (.int .u64 (d : Int))).set3 (.bool false) (.int .i64 0) (.int .i64 0)).three
  have bb := below_set3 (g := (w.heap.size + 1)) (below_set11 (g := w.heap.size) (B0.out.trans (K7.mono B0.out.size)) (by omega) (.int .i64 k) (.int .i64 p) (.int .i64 x) (.int .i64 q) (.int .i64 y) (.int .i64 f) (.bool m) (.int .u64 (a : Int)) (.int .u64 (b : Int)) (.int .u64 (c : Int)) (.int .u64 (d : Int))) (by omega) (.bool false) (.int .i64 0) (.int .i64 0)
  go_wp2_with fail
  exact bodyPost_ret (v := .tuple #[.agg #[.int .i64 k, .int .i64 p, .int .i64 x, .int .i64 q, .int .i64 y, .int .i64 f, .bool m, .int .u64 (a : Int), .int .u64 (b : Int), .int .u64 (c : Int), .int .u64 (d : Int)], .int .i64 (n : Int), .agg #[.bool false, .int .i64 0, .int .i64 0]]) (by simp [results, Tryz.results124, go_sem, h0, h1, h2, h3, h4, h5, h6, h7, h8, h9, h10, h11, h12, h13]) rfl ⟨rfl, bb⟩
end
end Go.Proofs.YthhijfphfcmniaaGreat
namespace Go.Proofs.YthhijfphfcmniaaGreat
open Go Go.RowKit
theorem AB.farx3 {w : World} {g f : Nat} {ty : TypeId} {cs : List Value} (h : AB w g ty cs) (hne : g ≠ f) (x y z : Value) : AB (((w.setCell ⟨f, 0, none⟩ x).setCell ⟨f, 1, none⟩ y).setCell ⟨f, 2, none⟩ z) g ty cs := ((h.far x hne).far y hne).far z hne
end Go.Proofs.YthhijfphfcmniaaGreat
