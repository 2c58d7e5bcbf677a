import Derived.Test.YtcbkghbfalfkhaaKA
import Derived.Deep.RegionHeld3
import Derived.Deep.RegionWith
import Derived.Deep.MidRow
import Derived.Deep.Cut
import Derived.Test.YtcbkghbfalfkhaaJD
namespace Go.Proofs.Ytcbkghbfalfkhaa
section
open Go Go.RowKit
set_option linter.unusedVariables false
set_option linter.unusedSimpArgs false

set_option maxRecDepth 100000 in
set_option maxHeartbeats 4000000 in
theorem bclo_any (z : Int) (w : World) :
    Calls Try.prog 104 #[.int .u8 z] w fun e w' => e = .returned (.bool (z != 0)) ∧ w' = w := by
  go_enter Try.func104, Try.ntmps104
  go_wp2_with fail
  go_ret
  exact ⟨rfl, rfl⟩

set_option maxRecDepth 100000 in
set_option maxHeartbeats 4000000 in
theorem bidx_any (v : Value) (l : List Int) (w : World) (hB : Bytes w v l) :
    Calls Try.prog 119 #[v, (.func (.func 104) #[] #[])] w fun e w' => (∃ i : Int, e = .returned (.int .i64 i) ∧ (decide (0 ≤ i)) = nzB l) ∧ Below w.heap.size w w' := by
  obtain ⟨ao, cap, rfl, h1, h2, h3, h4, h5⟩ := hB
  have hB : Bytes w (.slice ao l.length cap) l := ⟨ao, cap, rfl, h1, h2, h3, h4, h5⟩
  obtain ⟨-, -, -, hat⟩ := Bytes.at hB
  have H := hide_ hat
  have hm : l.length ≤ 9223372036854775807 := by unfold maxLen at h2; omega
  clear hat hB h1 h2 h3 h4 h5
  go_enter Try.func119, Try.ntmps119
  go_wp2
  go_loopw [5, 8] (fun _ i wr => ∃ k : Nat, k ≤ l.length ∧ i = .int .i64 k ∧ Hid (nzB (l.take k) = false) ∧ Below w.heap.size w wr) (fun _ i _ => l.length - (intOf i).toNat)
  case atStart => exact ⟨0, Nat.zero_le _, rfl, rfl, Below.refl _ _⟩
  case round =>
    obtain ⟨k, hk, rfl, HT, hb⟩ := hrel
    by_cases hlt : k < l.length
    · obtain ⟨z, hz⟩ : ∃ z, l[k]? = some z := ⟨_, List.getElem?_eq_getElem hlt⟩
      obtain ⟨b, off, rfl, c1⟩ := H.out k z hz
      have c1 := cell_later hb c1
      have HZ := hide_ hz
      clear hz
      have hlt' : (k : Int) < (l.length : Int) := by omega
      by_cases h0 : z = 0
      · subst h0
        go_wp2_with (go_at_call 104; refine (bclo_any _ _).mono ?_; rintro e w' ⟨rfl, rfl⟩)
        go_roundw
        case rel => exact ⟨k + 1, by omega, by go_num, by show _ = _; rw [List.take_add_one, HZ.out]; unfold nzB at *; rw [List.any_append, HT.out]; rfl, hb⟩
        case measure => simp [intOf]; omega
      · have hne : (z != 0) = true := by simpa using h0
        have H0 := hide_ h0
        clear h0
        go_wp2_with (go_at_call 104; refine (bclo_any _ _).mono ?_; rintro e w' ⟨rfl, rfl⟩)
        go_ret
        refine ⟨⟨_, rfl, ?_⟩, hb⟩
        have e1 : nzB l = true := by
          unfold nzB
          rw [List.any_eq_true]
          exact ⟨z, List.mem_of_getElem? HZ.out, by simpa using H0.out⟩
        rw [e1]
        simp
    · have hlt' : ¬ (k : Int) < (l.length : Int) := by omega
      go_wp2
      go_ret
      refine ⟨⟨_, rfl, ?_⟩, hb⟩
      have e := HT.out
      rw [List.take_of_length_le (by omega)] at e
      rw [e]
      rfl

set_option maxRecDepth 100000 in
set_option maxHeartbeats 4000000 in
theorem bcont_any (v : Value) (l : List Int) (w : World) (hB : Bytes w v l) :
    Calls Try.prog 81 #[v, (.func (.func 104) #[] #[])] w fun e w' => e = .returned (.bool (nzB l)) ∧ Below w.heap.size w w' := by
  have q := hide_ (bidx_any v l w hB)
  generalize nzB l = z at *
  clear hB
  go_enter Try.func81, Try.ntmps81
  go_wp2_with (go_at_call 119; refine q.out.mono ?_; rintro e w1 ⟨⟨i, rfl, hi⟩, b1⟩)
  go_ret
  exact ⟨by rw [← hi]; rfl, b1⟩

theorem bytes_cut {w : World} {ao : Option Addr} {n cap : Nat} {l : List Int} (h : Bytes w (.slice ao n cap) l) (s : Nat) (h0 : 0 < s) (hs : s ≤ l.length) :
    ∃ ao', (∀ wx, (Instr.slice 24 (.slice ao n cap) none (some (.int .i64 (s : Int))) (some (.int .i64 (s : Int)))).run Try.prog wx = .ok (.slice ao' s s) wx) ∧ Bytes w (.slice ao' s s) (l.take s) := by
  obtain ⟨a, c, e0, h1, h2, h3, h4, h5⟩ := h
  cases e0
  refine ⟨ao.map (·.add 0), fun wx => ?_, ?_⟩
  · rw [run_slice_hm wx 24 ao l.length cap u51 .i64 .i64 (s : Int) (s : Int) (by omega) (by omega) (by omega), sz51]
    have hz : ¬ s = 0 := by omega
    simp [sliced, hz]
  · refine ⟨ao.map (·.add 0), s, by rw [List.length_take, Nat.min_eq_left hs], by rw [List.length_take, Nat.min_eq_left hs]; exact Nat.le_refl _, by omega, fun z hz => h3 z (List.mem_of_mem_take hz), fun hn => ?_, fun ad hd j z hz => ?_⟩
    · cases ao with
      | none => have := h4 rfl; omega
      | some a => cases hn
    · rw [List.getElem?_take] at hz
      split at hz
      · cases ao with
        | none => cases hd
        | some a =>
          simp at hd
          subst hd
          rw [Addr.add_add, Nat.zero_add]
          exact h5 a rfl _ _ hz
      · cases hz
def cutOk (l : List Int) : Prop := 16 ≤ l.length ∧ 16 ≤ be2 l 0 ∧ be2 l 0 % 8 = 0 ∧ be2 l 0 ≤ l.length

set_option maxRecDepth 100000 in
set_option maxHeartbeats 8000000 in
theorem cut_no (v : Value) (l : List Int) (w : World) (hB : Bytes w v l) (h : ¬ cutOk l) :
    Calls Try.prog 103 #[v] w fun e w' => e = .returned (.tuple #[.slice none 0 0, .bool false]) ∧ Below w.heap.size w w' := by
  obtain ⟨ao, cap, rfl, hbr⟩ := hB
  have hB : Bytes w (.slice ao l.length cap) l := ⟨ao, cap, rfl, hbr⟩
  have qg := hide_ (fun W hW => nget2 _ l 0 W (hB.later (w' := W) hW) (by omega))
  have hm : l.length ≤ 9223372036854775807 := by obtain ⟨_, _, h1⟩ := Bytes.at hB; unfold maxLen at *; omega
  have hz := (be2_range (Bytes.isB_ hB) 0)
  have hc : l.length < 16 ∨ (¬ l.length < 16 ∧ (be2 l 0 < 16 ∨ (¬ be2 l 0 < 16 ∧ (¬ be2 l 0 % 8 = 0 ∨ (be2 l 0 % 8 = 0 ∧ (l.length : Int) < be2 l 0))))) := by
    unfold cutOk at h; omega
  generalize be2 l 0 = z at *
  clear hB hbr h
  generalize l.length = n at *
  rcases hc with h1 | ⟨h1, h2 | ⟨h2, h3 | ⟨h3, h4⟩⟩⟩
  · have g1 : (n : Int) < 16 := by omega
    go_enter Try.func103, Try.ntmps103
    go_wp2
    go_ret2
    exact ⟨rfl, Below.refl _ _⟩
  · have g1 : ¬ (n : Int) < 16 := by omega
    go_enter Try.func103, Try.ntmps103
    go_wp2_with (go_at_call 92; refine (qg.out _ (Below.refl _ _)).mono ?_; rintro e w1 ⟨er, rfl, b1⟩)
    go_ret2
    exact ⟨rfl, b1⟩
  · have g1 : ¬ (n : Int) < 16 := by omega
    have g3 : (z % 8 != 0) = true := by simpa using h3
    go_enter Try.func103, Try.ntmps103
    go_wp2_with (go_at_call 92; refine (qg.out _ (Below.refl _ _)).mono ?_; rintro e w1 ⟨er, rfl, b1⟩)
    go_ret2
    exact ⟨rfl, b1⟩
  · have g1 : ¬ (n : Int) < 16 := by omega
    have g3 : (z % 8 != 0) = false := by simpa using h3
    go_enter Try.func103, Try.ntmps103
    go_wp2_with (go_at_call 92; refine (qg.out _ (Below.refl _ _)).mono ?_; rintro e w1 ⟨er, rfl, b1⟩)
    go_ret2
    exact ⟨rfl, b1⟩

set_option maxRecDepth 100000 in
set_option maxHeartbeats 8000000 in
theorem cut_yes (ao ao' : Option Addr) (cap : Nat) (l : List Int) (N : Nat) (w : World) (hB : Bytes w (.slice ao l.length cap) l) (h : cutOk l) (hN : be2 l 0 = (N : Int))
    (hs : ∀ wx, (Instr.slice 24 (.slice ao l.length cap) none (some (.int .i64 (N : Int))) (some (.int .i64 (N : Int)))).run Try.prog wx = .ok (.slice ao' N N) wx) :
    Calls Try.prog 103 #[.slice ao l.length cap] w fun e w' => e = .returned (.tuple #[.slice ao' N N, .bool true]) ∧ Below w.heap.size w w' := by
  have qg := fun W hW => nget2 _ l 0 W (hB.later (w' := W) hW) (by omega)
  have hm : l.length ≤ 9223372036854775807 := by obtain ⟨_, _, h1⟩ := Bytes.at hB; unfold maxLen at *; omega
  unfold cutOk at h
  rw [hN] at qg h
  have qg := hide_ qg
  obtain ⟨h1, h2, h3, h4⟩ := h
  clear hB hN
  generalize l.length = n at *
  have g1 : ¬ (n : Int) < 16 := by omega
  have g2 : ¬ (N : Int) < 16 := by omega
  have g3 : ((N : Int) % 8 != 0) = false := by simpa using h3
  have g4 : ¬ (n : Int) < (N : Int) := by omega
  clear h1 h2 h3 h4
  go_enter Try.func103, Try.ntmps103
  go_wp2_with (go_at_call 92; refine (qg.out _ (Below.refl _ _)).mono ?_; rintro e w1 ⟨er, rfl, b1⟩)
  go_ret2
  exact ⟨rfl, b1⟩

set_option maxRecDepth 100000 in
set_option maxHeartbeats 8000000 in
theorem refuse6_any (c : Int) (w : World) :
    Calls Try.prog 66 #[.int .i64 c] w fun e w' => e = .returned (.agg #[.bool true, .int .i64 6, .int .i64 c]) ∧ Below w.heap.size w w' := by
  have B0 := hide_ (below1 w (.cells #[.bool true, .int .i64 6, .int .i64 c] 34))
  go_enter Try.func66, Try.ntmps66
  go_wp2
  exact bodyPost_ret (v := .agg #[.bool true, .int .i64 6, .int .i64 c]) (by simp [results, Try.results66, go_sem]) rfl ⟨rfl, B0.out⟩

theorem AB.fark4 {w : World} {g f : Nat} {ty : TypeId} {cs : List Value} (h : AB w g ty cs) (hne : g ≠ f) (x y z u : Value) : AB ((((w.setCell ⟨f, 0, none⟩ x).setCell ⟨f, 1, none⟩ y).setCell ⟨f, 2, none⟩ z).setCell ⟨f, 3, none⟩ u) g ty cs := (((h.far x hne).far y hne).far z hne).far u hne
theorem AB.farx3 {w : World} {g f : Nat} {ty : TypeId} {cs : List Value} (h : AB w g ty cs) (hne : g ≠ f) (x y z : Value) : AB (((w.setCell ⟨f, 0, none⟩ x).setCell ⟨f, 1, none⟩ y).setCell ⟨f, 2, none⟩ z) g ty cs := ((h.far x hne).far y hne).far z hne
end

section
open Go Go.RowKit
set_option linter.unusedVariables false
set_option linter.unusedSimpArgs false

theorem cell_fillK {w : World} {g i0 i1 i2 i3 : Nat} {p : Addr} (hp : g ≠ p.block) (x y z u : Value) : ((((w.setCell ⟨g, i0, none⟩ x).setCell ⟨g, i1, none⟩ y).setCell ⟨g, i2, none⟩ z).setCell ⟨g, i3, none⟩ u).cell? p = w.cell? p := by
  rw [World.cell?_of_block (w := _) (Below.heap_setCell _ _ _ _ (fun e => hp e.symm)), World.cell?_of_block (w := _) (Below.heap_setCell _ _ _ _ (fun e => hp e.symm)), World.cell?_of_block (w := _) (Below.heap_setCell _ _ _ _ (fun e => hp e.symm)), World.cell?_of_block (w := _) (Below.heap_setCell _ _ _ _ (fun e => hp e.symm))]

set_option maxRecDepth 100000 in
set_option maxHeartbeats 8000000 in
theorem read_bad1 (ao : Option Addr) (cap : Nat) (l : List Int) (w : World) (hB : Bytes w (.slice ao l.length cap) l) (h : ¬ cutOk l) :
    Calls Try.prog 67 #[.slice ao l.length cap] w fun e w' => e = .returned (.tuple #[.agg #[.int .i64 0, .int .i64 0, .int .i64 0, .slice none 0 0], .int .i64 0, .agg #[.bool true, .int .i64 6, .int .i64 12]]) ∧ Below w.heap.size w w' := by
  have R0 := hide_ ((AB.at0 w 96 [.int .i64 0, .int .i64 0, .int .i64 0, .slice none 0 0]).alloc (.cells #[.bool false, .int .i64 0, .int .i64 0] 34))
  have F0 := hide_ (AB.at1 w (.cells #[.int .i64 0, .int .i64 0, .int .i64 0, .slice none 0 0] 96) 34 [.bool false, .int .i64 0, .int .i64 0])
  have B0 := hide_ (below2 w (.cells #[.int .i64 0, .int .i64 0, .int .i64 0, .slice none 0 0] 96) (.cells #[.bool false, .int .i64 0, .int .i64 0] 34))
  have hm : l.length ≤ 9223372036854775807 := by obtain ⟨_, _, h1⟩ := Bytes.at hB; unfold maxLen at *; omega
  have qc := hide_ (fun W hW => cut_no _ l W (hB.later (w' := W) hW) h)
  clear hB h
  go_enter Try.func67, Try.ntmps67
  go_wp2_with (first | (go_at_call 103; refine (qc.out _ B0.out).mono ?_; rintro e w2 ⟨rfl, b2⟩; have k2 := hide_ (B0.out.trans (b2.mono B0.out.size)); have R2 := hide_ (R0.out.later b2); have F2 := hide_ (F0.out.later b2); clear b2) | (go_at_call 66; refine (refuse6_any 12 _).mono ?_; rintro e w9 ⟨rfl, b9⟩; have k9 := k2.out.trans (b9.mono k2.out.size); obtain ⟨r0, r1, r2, r3, r4, r5, r6, r7⟩ := (R2.out.later b9).k4; obtain ⟨s0, s1, s2, s3, s4, s5⟩ := ((F2.out.later b9).fark4 (f := w.heap.size) (by omega) (.int .i64 0) (.int .i64 0) (.int .i64 0) (.slice none 0 0)).three; obtain ⟨u0, u1, u2, u3, -⟩ := (((R2.out.later b9).setk4 (.int .i64 0) (.int .i64 0) (.int .i64 0) (.slice none 0 0)).farx3 (f := (w.heap.size + 1)) (by omega) (.bool true) (.int .i64 6) (.int .i64 12)).k4; obtain ⟨u4, u5, u6, -⟩ := (((F2.out.later b9).fark4 (f := w.heap.size) (by omega) (.int .i64 0) (.int .i64 0) (.int .i64 0) (.slice none 0 0)).set3 (.bool true) (.int .i64 6) (.int .i64 12)).three; have bb := below_set3 (g := (w.heap.size + 1)) (below_setk4 (g := w.heap.size) k9 (Nat.le_refl _) (.int .i64 0) (.int .i64 0) (.int .i64 0) (.slice none 0 0)) (by omega) (.bool true) (.int .i64 6) (.int .i64 12)))
  exact bodyPost_ret (v := .tuple #[.agg #[.int .i64 0, .int .i64 0, .int .i64 0, .slice none 0 0], .int .i64 0, .agg #[.bool true, .int .i64 6, .int .i64 12]]) (by simp [results, Try.results67, go_sem, u0, u1, u2, u3, u4, u5, u6]) rfl ⟨rfl, bb⟩

set_option maxRecDepth 100000 in
set_option maxHeartbeats 8000000 in
theorem read_bad2 (ao : Option Addr) (cap : Nat) (l : List Int) (N : Nat) (w : World) (hB : Bytes w (.slice ao l.length cap) l) (h : cutOk l) (hN : be2 l 0 = (N : Int)) (hz : nzB (((l.take N).take 16).drop 12) = true) :
    Calls Try.prog 67 #[.slice ao l.length cap] w fun e w' => e = .returned (.tuple #[.agg #[.int .i64 0, .int .i64 0, .int .i64 0, .slice none 0 0], .int .i64 0, .agg #[.bool true, .int .i64 6, .int .i64 12]]) ∧ Below w.heap.size w w' := by
  have R0 := hide_ ((AB.at0 w 96 [.int .i64 0, .int .i64 0, .int .i64 0, .slice none 0 0]).alloc (.cells #[.bool false, .int .i64 0, .int .i64 0] 34))
  have F0 := hide_ (AB.at1 w (.cells #[.int .i64 0, .int .i64 0, .int .i64 0, .slice none 0 0] 96) 34 [.bool false, .int .i64 0, .int .i64 0])
  have B0 := hide_ (below2 w (.cells #[.int .i64 0, .int .i64 0, .int .i64 0, .slice none 0 0] 96) (.cells #[.bool false, .int .i64 0, .int .i64 0] 34))
  have hm : l.length ≤ 9223372036854775807 := by obtain ⟨_, _, h1⟩ := Bytes.at hB; unfold maxLen at *; omega
  have h16 : 16 ≤ N := by unfold cutOk at h; omega
  have hle : N ≤ l.length := by unfold cutOk at h; omega
  obtain ⟨ao1, sl1, b1⟩ := bytes_cut hB N (by omega) hle
  have lt1 : (l.take N).length = N := by rw [List.length_take, Nat.min_eq_left hle]
  obtain ⟨ao2, sl2, b2⟩ := bytes_mid b1 12 16 (by omega) (by rw [lt1]; exact h16)
  have sl2 : ∀ wx, (Instr.slice 24 (.slice ao1 N N) (some (.int .i64 12)) (some (.int .i64 16)) none).run Try.prog wx = .ok (.slice ao2 4 (N - 12)) wx := sl2
  have qc := hide_ (fun W hW => cut_yes ao ao1 cap l N W (hB.later (w' := W) hW) h hN sl1)
  have qn := fun W hW => bcont_any _ _ W (b2.later (w' := W) hW)
  rw [hz] at qn
  have qn := hide_ qn
  clear hB h hN hz b1 b2
  go_enter Try.func67, Try.ntmps67
  go_wp2_with (first | (go_at_call 103; refine (qc.out _ B0.out).mono ?_; rintro e w2 ⟨rfl, b2⟩; have k2 := hide_ (B0.out.trans (b2.mono B0.out.size)); have R2 := hide_ (R0.out.later b2); have F2 := hide_ (F0.out.later b2); clear b2) | (go_at_call 81; refine (qn.out _ k2.out).mono ?_; rintro e w3 ⟨rfl, b3⟩; have k3 := hide_ (k2.out.trans (b3.mono k2.out.size)); have R3 := hide_ (R2.out.later b3); have F3 := hide_ (F2.out.later b3); clear b3) | (go_at_call 66; refine (refuse6_any 12 _).mono ?_; rintro e w9 ⟨rfl, b9⟩; have k9 := k3.out.trans (b9.mono k3.out.size); obtain ⟨r0, r1, r2, r3, r4, r5, r6, r7⟩ := (R3.out.later b9).k4; obtain ⟨s0, s1, s2, s3, s4, s5⟩ := ((F3.out.later b9).fark4 (f := w.heap.size) (by omega) (.int .i64 0) (.int .i64 0) (.int .i64 0) (.slice none 0 0)).three; obtain ⟨u0, u1, u2, u3, -⟩ := (((R3.out.later b9).setk4 (.int .i64 0) (.int .i64 0) (.int .i64 0) (.slice none 0 0)).farx3 (f := (w.heap.size + 1)) (by omega) (.bool true) (.int .i64 6) (.int .i64 12)).k4; obtain ⟨u4, u5, u6, -⟩ := (((F3.out.later b9).fark4 (f := w.heap.size) (by omega) (.int .i64 0) (.int .i64 0) (.int .i64 0) (.slice none 0 0)).set3 (.bool true) (.int .i64 6) (.int .i64 12)).three; have bb := below_set3 (g := (w.heap.size + 1)) (below_setk4 (g := w.heap.size) k9 (Nat.le_refl _) (.int .i64 0) (.int .i64 0) (.int .i64 0) (.slice none 0 0)) (by omega) (.bool true) (.int .i64 6) (.int .i64 12)))
  exact bodyPost_ret (v := .tuple #[.agg #[.int .i64 0, .int .i64 0, .int .i64 0, .slice none 0 0], .int .i64 0, .agg #[.bool true, .int .i64 6, .int .i64 12]]) (by simp [results, Try.results67, go_sem, u0, u1, u2, u3, u4, u5, u6]) rfl ⟨rfl, bb⟩

set_option maxRecDepth 100000 in
set_option maxHeartbeats 8000000 in
theorem read_flt (ao : Option Addr) (cap : Nat) (l : List Int) (N : Nat) (z : Int) (w : World) (hB : Bytes w (.slice ao l.length cap) l) (h : cutOk l) (hN : be2 l 0 = (N : Int)) (hz : nzB (((l.take N).take 16).drop 12) = false) (hP : ∀ (v : Value) (W : World), Bytes W v ((l.take N).drop 16) → Calls Try.prog 19 #[v] W fun e w' => (e = .returned (.tuple #[.slice none 0 0, .agg #[.bool true, .int .i64 2, .int .i64 z]])) ∧ Below W.heap.size W w') :
    Calls Try.prog 67 #[.slice ao l.length cap] w fun e w' => e = .returned (.tuple #[.agg #[.int .i64 0, .int .i64 0, .int .i64 0, .slice none 0 0], .int .i64 0, .agg #[.bool true, .int .i64 2, .int .i64 z]]) ∧ Below w.heap.size w w' := by
  have R0 := hide_ ((AB.at0 w 96 [.int .i64 0, .int .i64 0, .int .i64 0, .slice none 0 0]).alloc (.cells #[.bool false, .int .i64 0, .int .i64 0] 34))
  have F0 := hide_ (AB.at1 w (.cells #[.int .i64 0, .int .i64 0, .int .i64 0, .slice none 0 0] 96) 34 [.bool false, .int .i64 0, .int .i64 0])
  have B0 := hide_ (below2 w (.cells #[.int .i64 0, .int .i64 0, .int .i64 0, .slice none 0 0] 96) (.cells #[.bool false, .int .i64 0, .int .i64 0] 34))
  have hm : l.length ≤ 9223372036854775807 := by obtain ⟨_, _, h1⟩ := Bytes.at hB; unfold maxLen at *; omega
  have h16 : 16 ≤ N := by unfold cutOk at h; omega
  have hle : N ≤ l.length := by unfold cutOk at h; omega
  obtain ⟨ao1, sl1, b1⟩ := bytes_cut hB N (by omega) hle
  have lt1 : (l.take N).length = N := by rw [List.length_take, Nat.min_eq_left hle]
  obtain ⟨ao2, sl2, b2⟩ := bytes_mid b1 12 16 (by omega) (by rw [lt1]; exact h16)
  have sl2 : ∀ wx, (Instr.slice 24 (.slice ao1 N N) (some (.int .i64 12)) (some (.int .i64 16)) none).run Try.prog wx = .ok (.slice ao2 4 (N - 12)) wx := sl2
  have qc := hide_ (fun W hW => cut_yes ao ao1 cap l N W (hB.later (w' := W) hW) h hN sl1)
  have qn := fun W hW => bcont_any _ _ W (b2.later (w' := W) hW)
  rw [hz] at qn
  have qn := hide_ qn
  obtain ⟨ao3, -, sl3, b3⟩ := bytes_slice b1 16 (by rw [lt1]; exact h16)
  have sl3 : ∀ wx, (Instr.slice 24 (.slice ao1 N N) (some (.int .i64 16)) none none).run Try.prog wx = .ok (.slice ao3 (N - 16) (N - 16)) wx := sl3
  have hmN : N ≤ 9223372036854775807 := by omega
  have qd := hide_ (fun W hW => hP _ W (b3.later (w' := W) hW))
  clear hB h hN hz hP b1 b2 b3
  go_enter Try.func67, Try.ntmps67
  go_upto_region 6 with (first | (go_at_call 103; refine (qc.out _ B0.out).mono ?_; rintro e w2 ⟨rfl, b2⟩; have k2 := hide_ (B0.out.trans (b2.mono B0.out.size)); have R2 := hide_ (R0.out.later b2); have F2 := hide_ (F0.out.later b2); clear b2) | (go_at_call 81; refine (qn.out _ k2.out).mono ?_; rintro e w3 ⟨rfl, b3⟩; have k3 := hide_ (k2.out.trans (b3.mono k2.out.size)); have R3 := hide_ (R2.out.later b3); have F3 := hide_ (F2.out.later b3); clear b3) | (go_at_call 19; refine (qd.out _ k3.out).mono ?_; rintro e w4 ⟨rfl, b4⟩; have k4 := hide_ (k3.out.trans (b4.mono k3.out.size)); have R4 := hide_ (R3.out.later b4); have F4 := hide_ (F3.out.later b4); obtain ⟨f0, f1, f2, -⟩ := (AB.at0 w4 34 [.bool true, .int .i64 2, .int .i64 z]).three; clear b4))
  have k4x : Below w.heap.size w (w4.alloc (.cells #[.bool true, .int .i64 2, .int .i64 z] 34)) := k4.out.trans ((below1 w4 _).mono k4.out.size)
  have RX := hide_ (R4.out.alloc (.cells #[.bool true, .int .i64 2, .int .i64 z] 34))
  have FX := hide_ (F4.out.alloc (.cells #[.bool true, .int .i64 2, .int .i64 z] 34))
  have hgw : w.heap.size + 2 ≤ w4.heap.size := by have := F4.out.lt; omega
  generalize (w4.alloc (.cells #[.bool true, .int .i64 2, .int .i64 z] 34)) = X at *
  have RD : AB X.drew w.heap.size 96 [.int .i64 0, .int .i64 0, .int .i64 0, .slice none 0 0] := RX.out
  have FD : AB X.drew (w.heap.size + 1) 34 [.bool false, .int .i64 0, .int .i64 0] := FX.out
  obtain ⟨r0, r1, r2, r3, r4, r5, r6, r7⟩ := RD.k4
  obtain ⟨s0, s1, s2, s3, s4, s5⟩ := (FD.fark4 (f := w.heap.size) (by omega) (.int .i64 0) (.int .i64 0) (.int .i64 0) (.slice none 0 0)).three
  obtain ⟨u0, u1, u2, u3, -⟩ := ((RD.setk4 (.int .i64 0) (.int .i64 0) (.int .i64 0) (.slice none 0 0)).farx3 (f := (w.heap.size + 1)) (by omega) (.bool true) (.int .i64 2) (.int .i64 z)).k4
  obtain ⟨u4, u5, u6, -⟩ := ((FD.fark4 (f := w.heap.size) (by omega) (.int .i64 0) (.int .i64 0) (.int .i64 0) (.slice none 0 0)).set3 (.bool true) (.int .i64 2) (.int .i64 z)).three
  have bb := below_set3 (g := (w.heap.size + 1)) (below_setk4 (g := w.heap.size) k4x.drew (Nat.le_refl _) (.int .i64 0) (.int .i64 0) (.int .i64 0) (.slice none 0 0)) (by omega) (.bool true) (.int .i64 2) (.int .i64 z)
  clear RD FD bb
  refine wp_region_held_drew (S := (fun w' => w'.cell? ⟨w4.heap.size, 0, none⟩ = some (.bool true) ∧ w'.cell? ⟨w4.heap.size, 1, none⟩ = some (.int .i64 2) ∧ w'.cell? ⟨w4.heap.size, 2, none⟩ = some (.int .i64 z) ∧ Below w.heap.size w w')) (by kernel_rfl) (⟨f0, f1, f2, k4x.drew⟩) (fun hHeld => ?_)
  generalize X.drew = D at *
  refine takeR (i := 0) (v := ?_) rfl (by kernel_rfl) (by kernel_rfl) (by kernel_rfl) (some 32) rfl (Or.inl ⟨by rfl, ?_⟩) (fun _ _ _ h => h) (by assumption) ?_
  rotate_left
  · intro w hSw; (try dsimp only at hSw); go_simp; (try with_reducible rfl)
  simp only [Act.put, List.setIfInBounds_toArray, List.set_cons_zero, List.set_cons_succ]
  refine takeR (i := 1) (v := ?_) rfl (by kernel_rfl) (by kernel_rfl) (by kernel_rfl) (some 33) rfl (Or.inl ⟨by rfl, ?_⟩) (fun _ _ _ h => h) (by assumption) ?_
  rotate_left
  · intro w hSw; (try dsimp only at hSw); go_simp; (try with_reducible rfl)
  simp only [Act.put, List.setIfInBounds_toArray, List.set_cons_zero, List.set_cons_succ]
  refine wpAnyH_ready (rs := [2]) (by kernel_rfl) (by simp) ?_
  refine AllReadyH.cons rfl (fun K hK => ?_) (AllReadyH.nil)
  go_simp
  refine hK.out _ _ (⟨(cell_fillK (by dsimp only; omega) _ _ _ _).trans hHeld.1, (cell_fillK (by dsimp only; omega) _ _ _ _).trans hHeld.2.1, (cell_fillK (by dsimp only; omega) _ _ _ _).trans hHeld.2.2.1, below_setk4 (g := w.heap.size) hHeld.2.2.2 (Nat.le_refl _) _ _ _ _⟩) (fun hHeld => ?_)
  clear hK K
  try simp only [Act.put, List.setIfInBounds_toArray, List.set_cons_zero, List.set_cons_succ]
  refine takeR (i := 3) (v := ?_) rfl (by kernel_rfl) (by kernel_rfl) (by kernel_rfl) (some 3) rfl (Or.inl ⟨by rfl, ?_⟩) (fun _ _ _ h => h) (by assumption) ?_
  rotate_left
  · intro w hSw; (try dsimp only at hSw); go_simp; (try with_reducible rfl)
  simp only [Act.put, List.setIfInBounds_toArray, List.set_cons_zero, List.set_cons_succ]
  refine wpAnyH_ready (rs := [4]) (by kernel_rfl) (by simp) ?_
  refine AllReadyH.cons rfl (fun K hK => ?_) (AllReadyH.nil)
  go_simp
  refine hK.out _ _ (kW3_3 hHeld (by omega) (by dsimp only; omega) (by dsimp only; omega) (by dsimp only; omega)) (fun hHeld => ?_)
  clear hK K
  try simp only [Act.put, List.setIfInBounds_toArray, List.set_cons_zero, List.set_cons_succ]
  refine wpAnyH_done (by kernel_rfl) ?_ _
  go_wp2_with fail
  exact bodyPost_ret (v := .tuple #[.agg #[.int .i64 0, .int .i64 0, .int .i64 0, .slice none 0 0], .int .i64 0, .agg #[.bool true, .int .i64 2, .int .i64 z]]) (by simp [results, Try.results67, go_sem, u0, u1, u2, u3, u4, u5, u6]) rfl ⟨rfl, hHeld.2.2.2⟩
end

section
open Go Go.RowKit
set_option linter.unusedVariables false
set_option linter.unusedSimpArgs false

theorem far4row {w : World} {base g n sz : Nat} {e : TypeId} {v : Value} {xs : List Value} (ho : w.ownsRow base e sz v n xs) (hg : g < base) : ∀ x y z u : Value, ((((w.setCell ⟨g, 0, none⟩ x).setCell ⟨g, 1, none⟩ y).setCell ⟨g, 2, none⟩ z).setCell ⟨g, 3, none⟩ u).ownsRow base e sz v n xs := by
  intro x y z u
  refine ⟨ho.1, ?_⟩
  rcases ho.2 with hn | ⟨g', cap, cur, rfl, hb, hgg, rest⟩
  · exact .inl hn
  · refine .inr ⟨g', cap, cur, rfl, hb, ?_, rest⟩
    have far : ∀ (w : World) (j : Nat) (u : Value), (w.setCell ⟨g, j, none⟩ u).heap[g']? = w.heap[g']? := fun w j u => Below.heap_setCell w _ u g' (by show g' ≠ g; omega)
    rw [far, far, far, far]
    exact hgg

set_option maxRecDepth 100000 in
set_option maxHeartbeats 8000000 in
theorem read_ok (ao : Option Addr) (cap : Nat) (l : List Int) (N : Nat) (L : List A11) (w : World) (hB : Bytes w (.slice ao l.length cap) l) (h : cutOk l) (hN : be2 l 0 = (N : Int)) (hz : nzB (((l.take N).take 16).drop 12) = false) (hP : AOk Ans ((l.take N).drop 16) L) (hLL : L.length ≤ 100) :
    Calls Try.prog 67 #[.slice ao l.length cap] w fun e w' => (∃ r, e = .returned (.tuple #[.agg #[.int .i64 (be2 (l.take N) 2), .int .i64 (be4 (l.take N) 4), .int .i64 (be4 (l.take N) 8), r], .int .i64 (N : Int), .agg #[.bool false, .int .i64 0, .int .i64 0]]) ∧ w'.ownsRow w.heap.size 63 11 r L.length (ads L)) ∧ Below w.heap.size w w' := by
  have R0 := hide_ ((AB.at0 w 96 [.int .i64 0, .int .i64 0, .int .i64 0, .slice none 0 0]).alloc (.cells #[.bool false, .int .i64 0, .int .i64 0] 34))
  have F0 := hide_ (AB.at1 w (.cells #[.int .i64 0, .int .i64 0, .int .i64 0, .slice none 0 0] 96) 34 [.bool false, .int .i64 0, .int .i64 0])
  have B0 := hide_ (below2 w (.cells #[.int .i64 0, .int .i64 0, .int .i64 0, .slice none 0 0] 96) (.cells #[.bool false, .int .i64 0, .int .i64 0] 34))
  have hm : l.length ≤ 9223372036854775807 := by obtain ⟨_, _, h1⟩ := Bytes.at hB; unfold maxLen at *; omega
  have h16 : 16 ≤ N := by unfold cutOk at h; omega
  have hle : N ≤ l.length := by unfold cutOk at h; omega
  obtain ⟨ao1, sl1, b1⟩ := bytes_cut hB N (by omega) hle
  have lt1 : (l.take N).length = N := by rw [List.length_take, Nat.min_eq_left hle]
  obtain ⟨ao2, sl2, b2⟩ := bytes_mid b1 12 16 (by omega) (by rw [lt1]; exact h16)
  have sl2 : ∀ wx, (Instr.slice 24 (.slice ao1 N N) (some (.int .i64 12)) (some (.int .i64 16)) none).run Try.prog wx = .ok (.slice ao2 4 (N - 12)) wx := sl2
  have qc := hide_ (fun W hW => cut_yes ao ao1 cap l N W (hB.later (w' := W) hW) h hN sl1)
  have qn := fun W hW => bcont_any _ _ W (b2.later (w' := W) hW)
  rw [hz] at qn
  have qn := hide_ qn
  obtain ⟨ao3, -, sl3, b3⟩ := bytes_slice b1 16 (by rw [lt1]; exact h16)
  have sl3 : ∀ wx, (Instr.slice 24 (.slice ao1 N N) (some (.int .i64 16)) none none).run Try.prog wx = .ok (.slice ao3 (N - 16) (N - 16)) wx := sl3
  have hmN : N ≤ 9223372036854775807 := by omega
  have qd := hide_ (fun W hW => ad_ok _ _ L W (b3.later (w' := W) hW) hP hLL)
  have q2 := hide_ (fun W hW => nget2 _ (l.take N) 2 W (b1.later (w' := W) hW) (by omega))
  have q4 := hide_ (fun W hW => nget4 _ (l.take N) 4 W (b1.later (w' := W) hW) (by omega))
  have q8 := hide_ (fun W hW => nget4 _ (l.take N) 8 W (b1.later (w' := W) hW) (by omega))
  generalize be2 (l.take N) 2 = v1 at *
  generalize be4 (l.take N) 4 = v2 at *
  generalize be4 (l.take N) 8 = v3 at *
  clear hB h hN hz hP b1 b2 b3
  go_enter Try.func67, Try.ntmps67
  go_upto_region 11 with (first | (go_at_call 103; refine (qc.out _ B0.out).mono ?_; rintro e w2 ⟨rfl, b2⟩; have k2 := hide_ (B0.out.trans (b2.mono B0.out.size)); have R2 := hide_ (R0.out.later b2); have F2 := hide_ (F0.out.later b2); clear b2) | (go_at_call 81; refine (qn.out _ k2.out).mono ?_; rintro e w3 ⟨rfl, b3⟩; have k3 := hide_ (k2.out.trans (b3.mono k2.out.size)); have R3 := hide_ (R2.out.later b3); have F3 := hide_ (F2.out.later b3); clear b3) | (go_at_call 19; refine (qd.out _ k3.out).mono ?_; rintro e w4 ⟨⟨r, rfl, ho⟩, b4⟩; obtain ⟨ua, uc, e4⟩ := ownr_form ho; subst e4; have HO4 := hide_ ho; have k4 := hide_ (k3.out.trans (b4.mono k3.out.size)); have R4 := hide_ (R3.out.later b4); have F4 := hide_ (F3.out.later b4); obtain ⟨f0, f1, f2, -⟩ := (AB.at0 w4 34 [.bool false, .int .i64 0, .int .i64 0]).three; have XV := hide_ (AB.at1 w4 (.cells #[.bool false, .int .i64 0, .int .i64 0] 34) 96 [.int .i64 0, .int .i64 0, .int .i64 0, (.slice ua L.length uc)]); have jV := hide_ (below2 w4 (.cells #[.bool false, .int .i64 0, .int .i64 0] 34) (.cells #[.int .i64 0, .int .i64 0, .int .i64 0, (.slice ua L.length uc)] 96)); have kV := hide_ (k4.out.trans (jV.out.mono k4.out.size)); have hs3 : w.heap.size + 2 ≤ w3.heap.size := (by have := F3.out.lt; omega); have hs4 : w3.heap.size ≤ w4.heap.size := b4.size; clear b4 ho) | (go_at_call_of 92 (Value.int IntKind.i64 8); refine (q8.out _ kS6.out).mono ?_; rintro e w7 ⟨er7, rfl, b7⟩; have j7 := hide_ (jS6.out.trans (b7.mono jS6.out.size)); have X7 := hide_ (XS6.out.later b7); obtain ⟨z07, z17, z27, z37, z47, z57, z67, z77⟩ := X7.out.k4; have jS7 := hide_ (j7.out.setCell (p := ⟨w4.heap.size + 1, 2, none⟩) (by dsimp only; omega) (.int .i64 v3)); have XS7 : Hid (AB (w7.setCell ⟨w4.heap.size + 1, 2, none⟩ (.int .i64 v3)) (w4.heap.size + 1) 96 [(.int .i64 v1), (.int .i64 v2), (.int .i64 v3), (.slice ua L.length uc)]) := hide_ (X7.out.set (j := 2) (.int .i64 v3)); have kS7 := hide_ (k4.out.trans (jS7.out.mono k4.out.size)); clear b7) | (go_at_call_of 92 (Value.int IntKind.i64 4); refine (q4.out _ kS5.out).mono ?_; rintro e w6 ⟨er6, rfl, b6⟩; have j6 := hide_ (jS5.out.trans (b6.mono jS5.out.size)); have X6 := hide_ (XS5.out.later b6); obtain ⟨z06, z16, z26, z36, z46, z56, z66, z76⟩ := X6.out.k4; have jS6 := hide_ (j6.out.setCell (p := ⟨w4.heap.size + 1, 1, none⟩) (by dsimp only; omega) (.int .i64 v2)); have XS6 : Hid (AB (w6.setCell ⟨w4.heap.size + 1, 1, none⟩ (.int .i64 v2)) (w4.heap.size + 1) 96 [(.int .i64 v1), (.int .i64 v2), .int .i64 0, (.slice ua L.length uc)]) := hide_ (X6.out.set (j := 1) (.int .i64 v2)); have kS6 := hide_ (k4.out.trans (jS6.out.mono k4.out.size)); clear b6) | (go_at_call_of 92 (Value.int IntKind.i64 2); refine (q2.out _ kV.out).mono ?_; rintro e w5 ⟨er5, rfl, b5⟩; have j5 := hide_ (jV.out.trans (b5.mono jV.out.size)); have X5 := hide_ (XV.out.later b5); obtain ⟨z05, z15, z25, z35, z45, z55, z65, z75⟩ := X5.out.k4; have jS5 := hide_ (j5.out.setCell (p := ⟨w4.heap.size + 1, 0, none⟩) (by dsimp only; omega) (.int .i64 v1)); have XS5 : Hid (AB (w5.setCell ⟨w4.heap.size + 1, 0, none⟩ (.int .i64 v1)) (w4.heap.size + 1) 96 [(.int .i64 v1), .int .i64 0, .int .i64 0, (.slice ua L.length uc)]) := hide_ (X5.out.set (j := 0) (.int .i64 v1)); have kS5 := hide_ (k4.out.trans (jS5.out.mono k4.out.size)); clear b5))
  have RS := R4.out.later jS7.out
  have FS := F4.out.later jS7.out
  have OS := hide_ (ownr_later HO4.out jS7.out)
  have XS := XS7.out
  have KS := kS7.out
  generalize w7.setCell ⟨w4.heap.size + 1, 2, none⟩ (.int .i64 v3) = V at *
  obtain ⟨x0, x1, x2, x3, -⟩ := XS.k4
  obtain ⟨r0, r1, r2, r3, r4, r5, r6, r7⟩ := RS.k4
  obtain ⟨s0, s1, s2, s3, s4, s5⟩ := (FS.fark4 (f := w.heap.size) (by omega) (.int .i64 v1) (.int .i64 v2) (.int .i64 v3) ((.slice ua L.length uc))).three
  obtain ⟨u0, u1, u2, u3, -⟩ := ((RS.setk4 (.int .i64 v1) (.int .i64 v2) (.int .i64 v3) ((.slice ua L.length uc))).farx3 (f := (w.heap.size + 1)) (by omega) (.bool false) (.int .i64 0) (.int .i64 0)).k4
  obtain ⟨u4, u5, u6, -⟩ := ((FS.fark4 (f := w.heap.size) (by omega) (.int .i64 v1) (.int .i64 v2) (.int .i64 v3) ((.slice ua L.length uc))).set3 (.bool false) (.int .i64 0) (.int .i64 0)).three
  have bb := below_set3 (g := (w.heap.size + 1)) (below_setk4 (g := w.heap.size) KS (Nat.le_refl _) (.int .i64 v1) (.int .i64 v2) (.int .i64 v3) ((.slice ua L.length uc))) (by omega) (.bool false) (.int .i64 0) (.int .i64 0)
  go_wp2_with fail
  exact bodyPost_ret (v := .tuple #[.agg #[.int .i64 v1, .int .i64 v2, .int .i64 v3, (.slice ua L.length uc)], .int .i64 (N : Int), .agg #[.bool false, .int .i64 0, .int .i64 0]]) (by simp [results, Try.results67, go_sem, u0, u1, u2, u3, u4, u5, u6]) rfl ⟨⟨_, rfl, ownr_base (far3row (far4row OS.out (by omega) _ _ _ _) (by omega) _ _ _) (by omega)⟩, bb⟩
end

end Go.Proofs.Ytcbkghbfalfkhaa
