import Derived.Test.YthhijfphfcmniaaGreatNLAe
import Derived.Test.YthhijfphfcmniaaGreatJPe
import Derived.Test.YthhijfphfcmniaaGreatJLe
import Derived.Test.YthhijfphfcmniaaGreatOfe
import Derived.Deep.RegionHeld3
import Derived.Deep.RegionWith
import Derived.Deep.MidRow
import Derived.Deep.Cut
set_option maxRecDepth 100000
set_option maxHeartbeats 8000000
set_option linter.unusedVariables false
set_option linter.unusedSimpArgs false
namespace Go.Proofs.YthhijfphfcmniaaGreat
section
open Go Go.RowKit
theorem psae0 (w : World) : Hid (AB (((w.alloc (.cells #[.int .i64 0, .int .i64 0, .int .u64 0, .int .u64 0, .int .u64 0, .int .u64 0, .slice none 0 0] 34)).alloc (.cells #[.bool false, .int .i64 0, .int .i64 0] 44)).alloc (.cells #[.int .i64 1, .int .i64 0, .int .u64 0, .int .u64 0, .int .u64 0, .int .u64 0, .slice none 0 0] 34)) w.heap.size 34 [.int .i64 0, .int .i64 0, .int .u64 0, .int .u64 0, .int .u64 0, .int .u64 0, .slice none 0 0]) := h_ (((AB.at0 w 34 [.int .i64 0, .int .i64 0, .int .u64 0, .int .u64 0, .int .u64 0, .int .u64 0, .slice none 0 0]).alloc (.cells #[.bool false, .int .i64 0, .int .i64 0] 44)).alloc (.cells #[.int .i64 1, .int .i64 0, .int .u64 0, .int .u64 0, .int .u64 0, .int .u64 0, .slice none 0 0] 34))
theorem psae1 (w : World) : Hid (AB (((w.alloc (.cells #[.int .i64 0, .int .i64 0, .int .u64 0, .int .u64 0, .int .u64 0, .int .u64 0, .slice none 0 0] 34)).alloc (.cells #[.bool false, .int .i64 0, .int .i64 0] 44)).alloc (.cells #[.int .i64 1, .int .i64 0, .int .u64 0, .int .u64 0, .int .u64 0, .int .u64 0, .slice none 0 0] 34)) (w.heap.size + 1) 44 [.bool false, .int .i64 0, .int .i64 0]) := h_ ((AB.at1 w (.cells #[.int .i64 0, .int .i64 0, .int .u64 0, .int .u64 0, .int .u64 0, .int .u64 0, .slice none 0 0] 34) 44 [.bool false, .int .i64 0, .int .i64 0]).alloc (.cells #[.int .i64 1, .int .i64 0, .int .u64 0, .int .u64 0, .int .u64 0, .int .u64 0, .slice none 0 0] 34))
theorem psae2 (w : World) : Hid (AB (((w.alloc (.cells #[.int .i64 0, .int .i64 0, .int .u64 0, .int .u64 0, .int .u64 0, .int .u64 0, .slice none 0 0] 34)).alloc (.cells #[.bool false, .int .i64 0, .int .i64 0] 44)).alloc (.cells #[.int .i64 1, .int .i64 0, .int .u64 0, .int .u64 0, .int .u64 0, .int .u64 0, .slice none 0 0] 34)) (w.heap.size + 1 + 1) 34 [.int .i64 1, .int .i64 0, .int .u64 0, .int .u64 0, .int .u64 0, .int .u64 0, .slice none 0 0]) := h_ (by have := AB.at0 ((w.alloc (.cells #[.int .i64 0, .int .i64 0, .int .u64 0, .int .u64 0, .int .u64 0, .int .u64 0, .slice none 0 0] 34)).alloc (.cells #[.bool false, .int .i64 0, .int .i64 0] 44)) 34 [.int .i64 1, .int .i64 0, .int .u64 0, .int .u64 0, .int .u64 0, .int .u64 0, .slice none 0 0]; simpa using this)
theorem psae3 (w : World) : Hid (Below w.heap.size w (((w.alloc (.cells #[.int .i64 0, .int .i64 0, .int .u64 0, .int .u64 0, .int .u64 0, .int .u64 0, .slice none 0 0] 34)).alloc (.cells #[.bool false, .int .i64 0, .int .i64 0] 44)).alloc (.cells #[.int .i64 1, .int .i64 0, .int .u64 0, .int .u64 0, .int .u64 0, .int .u64 0, .slice none 0 0] 34))) := h_ ((Below.refl _ _).alloc (Nat.le_refl _) _ |>.alloc (by simp) _ |>.alloc (by simp; omega) _)
theorem psae4 (w : World) : Hid (AB (((w.alloc (.cells #[.int .i64 0, .int .i64 0, .int .u64 0, .int .u64 0, .int .u64 0, .int .u64 0, .slice none 0 0] 34)).alloc (.cells #[.bool false, .int .i64 0, .int .i64 0] 44)).alloc (.cells #[.int .i64 2, .int .i64 0, .int .u64 0, .int .u64 0, .int .u64 0, .int .u64 0, .slice none 0 0] 34)) w.heap.size 34 [.int .i64 0, .int .i64 0, .int .u64 0, .int .u64 0, .int .u64 0, .int .u64 0, .slice none 0 0]) := h_ (((AB.at0 w 34 [.int .i64 0, .int .i64 0, .int .u64 0, .int .u64 0, .int .u64 0, .int .u64 0, .slice none 0 0]).alloc (.cells #[.bool false, .int .i64 0, .int .i64 0] 44)).alloc (.cells #[.int .i64 2, .int .i64 0, .int .u64 0, .int .u64 0, .int .u64 0, .int .u64 0, .slice none 0 0] 34))
theorem psae5 (w : World) : Hid (AB (((w.alloc (.cells #[.int .i64 0, .int .i64 0, .int .u64 0, .int .u64 0, .int .u64 0, .int .u64 0, .slice none 0 0] 34)).alloc (.cells #[.bool false, .int .i64 0, .int .i64 0] 44)).alloc (.cells #[.int .i64 2, .int .i64 0, .int .u64 0, .int .u64 0, .int .u64 0, .int .u64 0, .slice none 0 0] 34)) (w.heap.size + 1) 44 [.bool false, .int .i64 0, .int .i64 0]) := h_ ((AB.at1 w (.cells #[.int .i64 0, .int .i64 0, .int .u64 0, .int .u64 0, .int .u64 0, .int .u64 0, .slice none 0 0] 34) 44 [.bool false, .int .i64 0, .int .i64 0]).alloc (.cells #[.int .i64 2, .int .i64 0, .int .u64 0, .int .u64 0, .int .u64 0, .int .u64 0, .slice none 0 0] 34))
theorem psae6 (w : World) : Hid (AB (((w.alloc (.cells #[.int .i64 0, .int .i64 0, .int .u64 0, .int .u64 0, .int .u64 0, .int .u64 0, .slice none 0 0] 34)).alloc (.cells #[.bool false, .int .i64 0, .int .i64 0] 44)).alloc (.cells #[.int .i64 2, .int .i64 0, .int .u64 0, .int .u64 0, .int .u64 0, .int .u64 0, .slice none 0 0] 34)) (w.heap.size + 1 + 1) 34 [.int .i64 2, .int .i64 0, .int .u64 0, .int .u64 0, .int .u64 0, .int .u64 0, .slice none 0 0]) := h_ (by have := AB.at0 ((w.alloc (.cells #[.int .i64 0, .int .i64 0, .int .u64 0, .int .u64 0, .int .u64 0, .int .u64 0, .slice none 0 0] 34)).alloc (.cells #[.bool false, .int .i64 0, .int .i64 0] 44)) 34 [.int .i64 2, .int .i64 0, .int .u64 0, .int .u64 0, .int .u64 0, .int .u64 0, .slice none 0 0]; simpa using this)
theorem psae7 (w : World) : Hid (Below w.heap.size w (((w.alloc (.cells #[.int .i64 0, .int .i64 0, .int .u64 0, .int .u64 0, .int .u64 0, .int .u64 0, .slice none 0 0] 34)).alloc (.cells #[.bool false, .int .i64 0, .int .i64 0] 44)).alloc (.cells #[.int .i64 2, .int .i64 0, .int .u64 0, .int .u64 0, .int .u64 0, .int .u64 0, .slice none 0 0] 34))) := h_ ((Below.refl _ _).alloc (Nat.le_refl _) _ |>.alloc (by simp) _ |>.alloc (by simp; omega) _)
end
open Go Go.RowKit
theorem rbad14_any (c : Int) (w : World) :
    Calls Tryz.prog 54 #[.int .i64 c] w fun e w' => e = .returned (.agg #[.bool true, .int .i64 3, .int .i64 c]) ∧ Below w.heap.size w w' := by
  have B0 := h_ (below1 w (.cells #[.bool true, .int .i64 3, .int .i64 c] 44))
  go_enter Tryz.func54, Tryz.ntmps54
  go_wp2
  exact bodyPost_ret (v := .agg #[.bool true, .int .i64 3, .int .i64 c]) (by simp [results, Tryz.results54, go_sem]) rfl ⟨rfl, B0.out⟩
theorem rnou14_any (v : Value) (l : List Int) (w : World) (hB : Bytes w v l) :
    Calls Tryz.prog 94 #[v] w fun e w' => e = .returned (.bool (!nzB l)) ∧ Below w.heap.size w w' := by
  obtain ⟨ao, cap, rfl, h1, h2, h3, h4, h5⟩ := hB
  have hB : Bytes w (.slice ao l.length cap) l := ⟨ao, cap, rfl, h1, h2, h3, h4, h5⟩
  obtain ⟨-, -, -, hat⟩ := Bytes.at hB
  have H := h_ hat
  have hm : l.length ≤ 9223372036854775807 := by unfold maxLen at h2; omega
  clear hat hB h1 h2 h3 h4 h5
  go_enter Tryz.func94, Tryz.ntmps94
  go_wp2
  go_loopw [3] (fun i wr => ∃ k : Nat, k ≤ l.length ∧ i = .int .i64 k ∧ Hid (nzB (l.take k) = false) ∧ Below w.heap.size w wr) (fun i _ => l.length - (intOf i).toNat)
  case atStart => exact ⟨0, Nat.zero_le _, rfl, rfl, Below.refl _ _⟩
  case round =>
    obtain ⟨k, hk, rfl, HT, hb⟩ := hrel
    by_cases hlt : k < l.length
    · obtain ⟨z, hz⟩ : ∃ z, l[k]? = some z := ⟨_, List.getElem?_eq_getElem hlt⟩
      obtain ⟨b, off, rfl, c1⟩ := H.out k z hz
      have c1 := cell_later hb c1
      have HZ := h_ hz
      clear hz
      have hlt' : (k : Int) < (l.length : Int) := by omega
      by_cases h0 : z = 0
      · subst h0
        go_wp2
        go_roundw
        case rel => exact ⟨k + 1, by omega, by go_num, by show _ = _; rw [List.take_add_one, HZ.out]; unfold nzB at *; rw [List.any_append, HT.out]; rfl, hb⟩
        case measure => simp [intOf]; omega
      · have hne : (z != 0) = true := by simpa using h0
        have H0 := h_ h0
        clear h0
        go_wp2
        go_ret
        have e1 : nzB l = true := by
          unfold nzB
          rw [List.any_eq_true]
          exact ⟨z, List.mem_of_getElem? HZ.out, by simpa using H0.out⟩
        rw [e1]
        exact ⟨rfl, hb⟩
    · have hlt' : ¬ (k : Int) < (l.length : Int) := by omega
      go_wp2
      go_ret
      have e := HT.out
      rw [List.take_of_length_le (by omega)] at e
      rw [e]
      exact ⟨rfl, hb⟩
def rightI (k : Int) (b : List Int) : Bool := if k = 1 then decide ((b.length : Int) = 8) && !nzB (b.drop 5) else if k = 2 then decide ((b.length : Int) = 24) && !nzB ((b.take 8).drop 4) else if k = 5 then decide ((b.length : Int) = 8) && !nzB (b.drop 4) else !nzB ((b.take 8).drop 4)
theorem rr14_1 (v : Value) (b : List Int) (w : World) (hB : Bytes w v b) (h8 : 8 ≤ b.length) :
    Calls Tryz.prog 56 #[.int .i64 1, v] w fun e w' => e = .returned (.bool (rightI 1 b)) ∧ Below w.heap.size w w' := by
  have hm := hmC2 hB
  obtain ⟨ao, cap, rfl⟩ := hB.short
  have e : rightI 1 b = (decide ((b.length : Int) = 8) && !nzB (b.drop 5)) := by unfold rightI; rfl
  rw [e]
  obtain ⟨a5, -, sl5, b5⟩ := bytes_slice hB 5 (by omega)
  have sl5 : ∀ wx, (Instr.slice 25 (.slice ao b.length cap) (some (.int .i64 5)) none none).run Tryz.prog wx = .ok (.slice a5 (b.length - 5) (cap - 5)) wx := sl5
  have q := h_ (rnou14_any _ _ w b5)
  generalize nzB (b.drop 5) = z at *
  clear b5
  clear hB h8 e
  skip
  by_cases hl : (b.length : Int) = 8
  · have hl2 : ((b.length : Int) == 8) = true := by simpa using hl
    rw [decide_eq_true hl]
    clear hl
    go_enter Tryz.func56, Tryz.ntmps56
    go_wp2_with (go_at_call 94; refine q.out.mono ?_; rintro e w1 ⟨rfl, b1⟩)
    go_ret
    exact ⟨by first | rfl | simp, b1⟩
  · have hl2 : ((b.length : Int) == 8) = false := by simpa using hl
    rw [decide_eq_false hl]
    clear hl
    go_enter Tryz.func56, Tryz.ntmps56
    go_wp2
    go_ret
    exact ⟨by first | rfl | simp, Below.refl _ _⟩
theorem rr14_2 (v : Value) (b : List Int) (w : World) (hB : Bytes w v b) (h8 : 8 ≤ b.length) :
    Calls Tryz.prog 56 #[.int .i64 2, v] w fun e w' => e = .returned (.bool (rightI 2 b)) ∧ Below w.heap.size w w' := by
  have hm := hmC2 hB
  obtain ⟨ao, cap, rfl⟩ := hB.short
  have e : rightI 2 b = (decide ((b.length : Int) = 24) && !nzB ((b.take 8).drop 4)) := by unfold rightI; rfl
  rw [e]
  obtain ⟨a5, sl5, b5⟩ := bytes_mid hB 4 8 (by omega) h8
  have sl5 : ∀ wx, (Instr.slice 25 (.slice ao b.length cap) (some (.int .i64 4)) (some (.int .i64 8)) none).run Tryz.prog wx = .ok (.slice a5 4 (cap - 4)) wx := sl5
  have q := h_ (rnou14_any _ _ w b5)
  generalize nzB ((b.take 8).drop 4) = z at *
  clear b5
  clear hB h8 e
  skip
  by_cases hl : (b.length : Int) = 24
  · have hl2 : ((b.length : Int) == 24) = true := by simpa using hl
    rw [decide_eq_true hl]
    clear hl
    go_enter Tryz.func56, Tryz.ntmps56
    go_wp2_with (go_at_call 94; refine q.out.mono ?_; rintro e w1 ⟨rfl, b1⟩)
    go_ret
    exact ⟨by first | rfl | simp, b1⟩
  · have hl2 : ((b.length : Int) == 24) = false := by simpa using hl
    rw [decide_eq_false hl]
    clear hl
    go_enter Tryz.func56, Tryz.ntmps56
    go_wp2
    go_ret
    exact ⟨by first | rfl | simp, Below.refl _ _⟩
theorem rr14_5 (v : Value) (b : List Int) (w : World) (hB : Bytes w v b) (h8 : 8 ≤ b.length) :
    Calls Tryz.prog 56 #[.int .i64 5, v] w fun e w' => e = .returned (.bool (rightI 5 b)) ∧ Below w.heap.size w w' := by
  have hm := hmC2 hB
  obtain ⟨ao, cap, rfl⟩ := hB.short
  have e : rightI 5 b = (decide ((b.length : Int) = 8) && !nzB (b.drop 4)) := by unfold rightI; rfl
  rw [e]
  obtain ⟨a5, -, sl5, b5⟩ := bytes_slice hB 4 (by omega)
  have sl5 : ∀ wx, (Instr.slice 25 (.slice ao b.length cap) (some (.int .i64 4)) none none).run Tryz.prog wx = .ok (.slice a5 (b.length - 4) (cap - 4)) wx := sl5
  have q := h_ (rnou14_any _ _ w b5)
  generalize nzB (b.drop 4) = z at *
  clear b5
  clear hB h8 e
  skip
  by_cases hl : (b.length : Int) = 8
  · have hl2 : ((b.length : Int) == 8) = true := by simpa using hl
    rw [decide_eq_true hl]
    clear hl
    go_enter Tryz.func56, Tryz.ntmps56
    go_wp2_with (go_at_call 94; refine q.out.mono ?_; rintro e w1 ⟨rfl, b1⟩)
    go_ret
    exact ⟨by first | rfl | simp, b1⟩
  · have hl2 : ((b.length : Int) == 8) = false := by simpa using hl
    rw [decide_eq_false hl]
    clear hl
    go_enter Tryz.func56, Tryz.ntmps56
    go_wp2
    go_ret
    exact ⟨by first | rfl | simp, Below.refl _ _⟩
theorem rr14_x (k : Int) (v : Value) (b : List Int) (w : World) (hB : Bytes w v b) (h8 : 8 ≤ b.length) (hk : ¬ k = 1 ∧ ¬ k = 2 ∧ ¬ k = 5) :
    Calls Tryz.prog 56 #[.int .i64 k, v] w fun e w' => e = .returned (.bool (rightI k b)) ∧ Below w.heap.size w w' := by
  have hm := hmC2 hB
  obtain ⟨ao, cap, rfl⟩ := hB.short
  have e : rightI k b = (!nzB ((b.take 8).drop 4)) := by unfold rightI; rw [if_neg hk.1, if_neg hk.2.1, if_neg hk.2.2]
  rw [e]
  obtain ⟨a5, sl5, b5⟩ := bytes_mid hB 4 8 (by omega) h8
  have sl5 : ∀ wx, (Instr.slice 25 (.slice ao b.length cap) (some (.int .i64 4)) (some (.int .i64 8)) none).run Tryz.prog wx = .ok (.slice a5 4 (cap - 4)) wx := sl5
  have q := h_ (rnou14_any _ _ w b5)
  generalize nzB ((b.take 8).drop 4) = z at *
  clear b5
  clear hB h8 e
  obtain ⟨hk1, hk2, hk5⟩ := hk
  go_enter Tryz.func56, Tryz.ntmps56
  go_wp2_with (go_at_call 94; refine q.out.mono ?_; rintro e w1 ⟨rfl, b1⟩)
  go_ret
  exact ⟨by first | rfl | simp, b1⟩
theorem rright14_any (k : Int) (v : Value) (b : List Int) (w : World) (hB : Bytes w v b) (h8 : 8 ≤ b.length) :
    Calls Tryz.prog 56 #[.int .i64 k, v] w fun e w' => e = .returned (.bool (rightI k b)) ∧ Below w.heap.size w w' := by
  by_cases h1 : k = 1
  · subst h1; exact rr14_1 v b w hB h8
  · by_cases h2 : k = 2
    · subst h2; exact rr14_2 v b w hB h8
    · by_cases h5 : k = 5
      · subst h5; exact rr14_5 v b w hB h8
      · exact rr14_x k v b w hB h8 ⟨h1, h2, h5⟩
theorem rightI_eq {l : List Int} {k : Int} {N : Nat} (hk : isK k = true) (h8 : 8 ≤ N) (hN : N ≤ l.length) : rightI k (l.take N) = (fitK k (N : Int) && nouI k l) := by
  have hl : ((l.take N).length : Int) = (N : Int) := by rw [List.length_take, Nat.min_eq_left hN]
  have ht : (l.take N).take 8 = l.take 8 := by rw [List.take_take, Nat.min_eq_left h8]
  unfold rightI fitK nouI
  rw [hl, ht]
  by_cases h1 : k = 1
  · subst h1
    by_cases e : (N : Int) = 8
    · have e2 : N = 8 := by omega
      subst e2
      simp
    · simp [e]
  · by_cases h2 : k = 2
    · subst h2
      simp
    · by_cases h5 : k = 5
      · subst h5
        by_cases e : (N : Int) = 8
        · have e2 : N = 8 := by omega
          subst e2
          simp
        · simp [e]
      · have h3 : k = 3 ∨ k = 4 := by unfold isK at hk; simp only [Bool.and_eq_true, decide_eq_true_eq] at hk; omega
        simp [h1, h2, h5, h3]
theorem rmeta_any (k t : Int) (b d : Nat) (u : Value) (w : World) (hb : b < 18446744073709551616) (hd : d < 18446744073709551616) :
    Calls Tryz.prog 50 #[.agg #[.int .i64 k, .int .i64 t, .int .u64 0, .int .u64 (b : Int), .int .u64 0, .int .u64 (d : Int), u]] w fun e w' => e = .returned (.bool (wi 0 b 0 d)) ∧ Below w.heap.size w w' := by
  have B0 := h_ (below1 w (.cells #[.int .i64 k, .int .i64 t, .int .u64 0, .int .u64 (b : Int), .int .u64 0, .int .u64 (d : Int), u] 34))
  have q1 := h_ (fun w => rless_any 0 b 0 d w (by decide) hb (by decide) hd)
  have q2 : Hid (∀ w, Calls Tryz.prog 87 #[wd (andn 0 0) (andn b d)] w fun e w' => e = .returned (.bool (wi 0 b 0 d)) ∧ Below w.heap.size w w') := h_ (fun w => rzero_any (andn 0 0) (andn b d) w)
  obtain ⟨x0, x1, x2, x3, x4, x5, x6, -⟩ := (AB.at0 w 34 [.int .i64 k, .int .i64 t, .int .u64 0, .int .u64 (b : Int), .int .u64 0, .int .u64 (d : Int), u]).k7
  go_enter Tryz.func50, Tryz.ntmps50
  go_wp2_with (first
    | (go_at_call 88; refine (q1.out _).mono ?_; rintro e w1 ⟨rfl, b1⟩; have k1 := h_ (B0.out.trans (b1.mono B0.out.size)))
    | (go_at_call 87; refine (q2.out _).mono ?_; rintro e w2 ⟨rfl, b2⟩; have k2 := h_ (k1.out.trans (b2.mono k1.out.size))))
  go_ret
  exact ⟨by first | rfl | simp, k2.out⟩
end Go.Proofs.YthhijfphfcmniaaGreat
namespace Go.Proofs.YthhijfphfcmniaaGreat
open Go Go.RowKit
theorem ro_5 (v : Value) (l : List Int) (w : World) (hB : Bytes w v l) :
    Calls Tryz.prog 57 #[.int .i64 5, v] w fun e w' => e = .returned (.tuple #[.agg #[.int .i64 5, .int .i64 0, .int .u64 0, .int .u64 0, .int .u64 0, .int .u64 0, .slice none 0 0], .agg #[.bool false, .int .i64 0, .int .i64 0]]) ∧ Below w.heap.size w w' := by
  have hm := hmC2 hB
  obtain ⟨ao, cap, rfl⟩ := hB.short
  have R0 : Hid (AB (((w.alloc (.cells #[.int .i64 0, .int .i64 0, .int .u64 0, .int .u64 0, .int .u64 0, .int .u64 0, .slice none 0 0] 34)).alloc (.cells #[.bool false, .int .i64 0, .int .i64 0] 44)).alloc (.cells #[.int .i64 5, .int .i64 0, .int .u64 0, .int .u64 0, .int .u64 0, .int .u64 0, .slice none 0 0] 34)) w.heap.size 34 [.int .i64 0, .int .i64 0, .int .u64 0, .int .u64 0, .int .u64 0, .int .u64 0, .slice none 0 0]) := h_ (((AB.at0 w 34 [.int .i64 0, .int .i64 0, .int .u64 0, .int .u64 0, .int .u64 0, .int .u64 0, .slice none 0 0]).alloc (.cells #[.bool false, .int .i64 0, .int .i64 0] 44)).alloc (.cells #[.int .i64 5, .int .i64 0, .int .u64 0, .int .u64 0, .int .u64 0, .int .u64 0, .slice none 0 0] 34))
  have F0 : Hid (AB (((w.alloc (.cells #[.int .i64 0, .int .i64 0, .int .u64 0, .int .u64 0, .int .u64 0, .int .u64 0, .slice none 0 0] 34)).alloc (.cells #[.bool false, .int .i64 0, .int .i64 0] 44)).alloc (.cells #[.int .i64 5, .int .i64 0, .int .u64 0, .int .u64 0, .int .u64 0, .int .u64 0, .slice none 0 0] 34)) (w.heap.size + 1) 44 [.bool false, .int .i64 0, .int .i64 0]) := h_ ((AB.at1 w (.cells #[.int .i64 0, .int .i64 0, .int .u64 0, .int .u64 0, .int .u64 0, .int .u64 0, .slice none 0 0] 34) 44 [.bool false, .int .i64 0, .int .i64 0]).alloc (.cells #[.int .i64 5, .int .i64 0, .int .u64 0, .int .u64 0, .int .u64 0, .int .u64 0, .slice none 0 0] 34))
  have I0 : Hid (AB (((w.alloc (.cells #[.int .i64 0, .int .i64 0, .int .u64 0, .int .u64 0, .int .u64 0, .int .u64 0, .slice none 0 0] 34)).alloc (.cells #[.bool false, .int .i64 0, .int .i64 0] 44)).alloc (.cells #[.int .i64 5, .int .i64 0, .int .u64 0, .int .u64 0, .int .u64 0, .int .u64 0, .slice none 0 0] 34)) (w.heap.size + 1 + 1) 34 [.int .i64 5, .int .i64 0, .int .u64 0, .int .u64 0, .int .u64 0, .int .u64 0, .slice none 0 0]) := h_ (by have := AB.at0 ((w.alloc (.cells #[.int .i64 0, .int .i64 0, .int .u64 0, .int .u64 0, .int .u64 0, .int .u64 0, .slice none 0 0] 34)).alloc (.cells #[.bool false, .int .i64 0, .int .i64 0] 44)) 34 [.int .i64 5, .int .i64 0, .int .u64 0, .int .u64 0, .int .u64 0, .int .u64 0, .slice none 0 0]; simpa using this)
  have k0 : Hid (Below w.heap.size w (((w.alloc (.cells #[.int .i64 0, .int .i64 0, .int .u64 0, .int .u64 0, .int .u64 0, .int .u64 0, .slice none 0 0] 34)).alloc (.cells #[.bool false, .int .i64 0, .int .i64 0] 44)).alloc (.cells #[.int .i64 5, .int .i64 0, .int .u64 0, .int .u64 0, .int .u64 0, .int .u64 0, .slice none 0 0] 34))) := h_ ((Below.refl _ _).alloc (Nat.le_refl _) _ |>.alloc (by simp) _ |>.alloc (by simp; omega) _)
  clear hB
  go_enter Tryz.func57, Tryz.ntmps57
  go_upto_region 18 with fail
  have R6 := R0.out
  have F6 := F0.out
  have I6_ := I0.out
  have k6 := k0.out
  generalize (((w.alloc (.cells #[.int .i64 0, .int .i64 0, .int .u64 0, .int .u64 0, .int .u64 0, .int .u64 0, .slice none 0 0] 34)).alloc (.cells #[.bool false, .int .i64 0, .int .i64 0] 44)).alloc (.cells #[.int .i64 5, .int .i64 0, .int .u64 0, .int .u64 0, .int .u64 0, .int .u64 0, .slice none 0 0] 34)) = Y at *
  obtain ⟨t0, t1, t2, t3, t4, t5, t6, t7, t8, t9, t10, t11, t12, t13⟩ := I6_.k7
  obtain ⟨s0, s1, s2, s3, s4, s5, s6, s7, s8, s9, s10, s11, s12, s13⟩ := R6.k7
  have F7 := F6.far7 (f := w.heap.size) (by omega) (.int .i64 5) (.int .i64 0) (.int .u64 0) (.int .u64 0) (.int .u64 0) (.int .u64 0) (.slice none 0 0)
  obtain ⟨p0, p1, p2, p3, p4, p5⟩ := F7.three
  obtain ⟨u0, u1, u2, u3, u4, u5, u6, -⟩ := ((R6.set7 (.int .i64 5) (.int .i64 0) (.int .u64 0) (.int .u64 0) (.int .u64 0) (.int .u64 0) (.slice none 0 0)).farx3 (f := w.heap.size + 1) (by omega) (.bool false) (.int .i64 0) (.int .i64 0)).k7
  obtain ⟨u7, u8, u9, -⟩ := (F7.set3 (.bool false) (.int .i64 0) (.int .i64 0)).three
  have bb := below_set3 (g := w.heap.size + 1) (below_set7 (n := w.heap.size) k6 (Nat.le_refl _) (.int .i64 5) (.int .i64 0) (.int .u64 0) (.int .u64 0) (.int .u64 0) (.int .u64 0) (.slice none 0 0)) (by omega) (.bool false) (.int .i64 0) (.int .i64 0)
  go_wp2_with fail
  exact bodyPost_ret (v := .tuple #[.agg #[.int .i64 5, .int .i64 0, .int .u64 0, .int .u64 0, .int .u64 0, .int .u64 0, .slice none 0 0], .agg #[.bool false, .int .i64 0, .int .i64 0]]) (by simp [results, Tryz.results57, go_sem, u0, u1, u2, u3, u4, u5, u6, u7, u8, u9]) rfl ⟨rfl, bb⟩
theorem ro_1 (v : Value) (l : List Int) (y : Int) (w : World) (hB : Bytes w v l) (h8 : 8 ≤ l.length) (hy : l.getD 4 0 = y) (hy2 : ¬ y = 255) :
    Calls Tryz.prog 57 #[.int .i64 1, v] w fun e w' => e = .returned (.tuple #[.agg #[.int .i64 1, .int .i64 y, .int .u64 0, .int .u64 0, .int .u64 0, .int .u64 0, .slice none 0 0], .agg #[.bool false, .int .i64 0, .int .i64 0]]) ∧ Below w.heap.size w w' := by
  have hm := hmC2 hB
  obtain ⟨ao, cap, rfl⟩ := hB.short
  have hy0 := isB_getD (Bytes.at hB).2.2.1 4
  rw [hy] at hy0
  have hwy : IntKind.i64.wrap y = y := by rw [IntKind.wrap_i64]; omega
  obtain ⟨-, -, -, hat⟩ := Bytes.at hB
  obtain ⟨bq, off, rfl, c4⟩ := hat 4 y (by rw [← hy]; exact getD_some (by omega))
  have h4l : (4 : Int) < (l.length : Int) := by omega
  have R0 := psae0 w
  have F0 := psae1 w
  have I0 := psae2 w
  have k0 := psae3 w
  have c4 := cell_later k0.out c4
  clear hB h8 hy hat hy0
  go_enter Tryz.func57, Tryz.ntmps57
  have hy3 : (y == 255) = false := by simpa using hy2
  clear hy2
  go_upto_region 5 with fail
  have R6h : Hid (AB (((w.alloc (.cells #[.int .i64 0, .int .i64 0, .int .u64 0, .int .u64 0, .int .u64 0, .int .u64 0, .slice none 0 0] 34)).alloc (.cells #[.bool false, .int .i64 0, .int .i64 0] 44)).alloc (.cells #[.int .i64 1, .int .i64 y, .int .u64 0, .int .u64 0, .int .u64 0, .int .u64 0, .slice none 0 0] 34)) w.heap.size 34 [.int .i64 0, .int .i64 0, .int .u64 0, .int .u64 0, .int .u64 0, .int .u64 0, .slice none 0 0]) := h_ (((AB.at0 w 34 [.int .i64 0, .int .i64 0, .int .u64 0, .int .u64 0, .int .u64 0, .int .u64 0, .slice none 0 0]).alloc (.cells #[.bool false, .int .i64 0, .int .i64 0] 44)).alloc (.cells #[.int .i64 1, .int .i64 y, .int .u64 0, .int .u64 0, .int .u64 0, .int .u64 0, .slice none 0 0] 34))
  have F6h : Hid (AB (((w.alloc (.cells #[.int .i64 0, .int .i64 0, .int .u64 0, .int .u64 0, .int .u64 0, .int .u64 0, .slice none 0 0] 34)).alloc (.cells #[.bool false, .int .i64 0, .int .i64 0] 44)).alloc (.cells #[.int .i64 1, .int .i64 y, .int .u64 0, .int .u64 0, .int .u64 0, .int .u64 0, .slice none 0 0] 34)) (w.heap.size + 1) 44 [.bool false, .int .i64 0, .int .i64 0]) := h_ ((AB.at1 w (.cells #[.int .i64 0, .int .i64 0, .int .u64 0, .int .u64 0, .int .u64 0, .int .u64 0, .slice none 0 0] 34) 44 [.bool false, .int .i64 0, .int .i64 0]).alloc (.cells #[.int .i64 1, .int .i64 y, .int .u64 0, .int .u64 0, .int .u64 0, .int .u64 0, .slice none 0 0] 34))
  have I6h : Hid (AB (((w.alloc (.cells #[.int .i64 0, .int .i64 0, .int .u64 0, .int .u64 0, .int .u64 0, .int .u64 0, .slice none 0 0] 34)).alloc (.cells #[.bool false, .int .i64 0, .int .i64 0] 44)).alloc (.cells #[.int .i64 1, .int .i64 y, .int .u64 0, .int .u64 0, .int .u64 0, .int .u64 0, .slice none 0 0] 34)) (w.heap.size + 1 + 1) 34 [.int .i64 1, .int .i64 y, .int .u64 0, .int .u64 0, .int .u64 0, .int .u64 0, .slice none 0 0]) := h_ (by have := AB.at0 ((w.alloc (.cells #[.int .i64 0, .int .i64 0, .int .u64 0, .int .u64 0, .int .u64 0, .int .u64 0, .slice none 0 0] 34)).alloc (.cells #[.bool false, .int .i64 0, .int .i64 0] 44)) 34 [.int .i64 1, .int .i64 y, .int .u64 0, .int .u64 0, .int .u64 0, .int .u64 0, .slice none 0 0]; simpa using this)
  have k6h : Hid (Below w.heap.size w (((w.alloc (.cells #[.int .i64 0, .int .i64 0, .int .u64 0, .int .u64 0, .int .u64 0, .int .u64 0, .slice none 0 0] 34)).alloc (.cells #[.bool false, .int .i64 0, .int .i64 0] 44)).alloc (.cells #[.int .i64 1, .int .i64 y, .int .u64 0, .int .u64 0, .int .u64 0, .int .u64 0, .slice none 0 0] 34))) := h_ ((Below.refl _ _).alloc (Nat.le_refl _) _ |>.alloc (by simp) _ |>.alloc (by simp; omega) _)
  have R6 := R6h.out
  have F6 := F6h.out
  have I6_ := I6h.out
  have k6 := k6h.out
  clear c4 R6h F6h I6h k6h
  generalize (((w.alloc (.cells #[.int .i64 0, .int .i64 0, .int .u64 0, .int .u64 0, .int .u64 0, .int .u64 0, .slice none 0 0] 34)).alloc (.cells #[.bool false, .int .i64 0, .int .i64 0] 44)).alloc (.cells #[.int .i64 1, .int .i64 y, .int .u64 0, .int .u64 0, .int .u64 0, .int .u64 0, .slice none 0 0] 34)) = Y at *
  obtain ⟨i0, i1, -⟩ := I6_.k7
  go_upto_region 18 with fail
  obtain ⟨t0, t1, t2, t3, t4, t5, t6, t7, t8, t9, t10, t11, t12, t13⟩ := I6_.k7
  obtain ⟨s0, s1, s2, s3, s4, s5, s6, s7, s8, s9, s10, s11, s12, s13⟩ := R6.k7
  have F7 := F6.far7 (f := w.heap.size) (by omega) (.int .i64 1) (.int .i64 y) (.int .u64 0) (.int .u64 0) (.int .u64 0) (.int .u64 0) (.slice none 0 0)
  obtain ⟨p0, p1, p2, p3, p4, p5⟩ := F7.three
  obtain ⟨u0, u1, u2, u3, u4, u5, u6, -⟩ := ((R6.set7 (.int .i64 1) (.int .i64 y) (.int .u64 0) (.int .u64 0) (.int .u64 0) (.int .u64 0) (.slice none 0 0)).farx3 (f := w.heap.size + 1) (by omega) (.bool false) (.int .i64 0) (.int .i64 0)).k7
  obtain ⟨u7, u8, u9, -⟩ := (F7.set3 (.bool false) (.int .i64 0) (.int .i64 0)).three
  have bb := below_set3 (g := w.heap.size + 1) (below_set7 (n := w.heap.size) k6 (Nat.le_refl _) (.int .i64 1) (.int .i64 y) (.int .u64 0) (.int .u64 0) (.int .u64 0) (.int .u64 0) (.slice none 0 0)) (by omega) (.bool false) (.int .i64 0) (.int .i64 0)
  go_wp2_with fail
  exact bodyPost_ret (v := .tuple #[.agg #[.int .i64 1, .int .i64 y, .int .u64 0, .int .u64 0, .int .u64 0, .int .u64 0, .slice none 0 0], .agg #[.bool false, .int .i64 0, .int .i64 0]]) (by simp [results, Tryz.results57, go_sem, u0, u1, u2, u3, u4, u5, u6, u7, u8, u9]) rfl ⟨rfl, bb⟩
theorem ro_1x (v : Value) (l : List Int) (y : Int) (w : World) (hB : Bytes w v l) (h8 : 8 ≤ l.length) (hy : l.getD 4 0 = y) (hy2 : y = 255) :
    Calls Tryz.prog 57 #[.int .i64 1, v] w fun e w' => e = .returned (.tuple #[.agg #[.int .i64 0, .int .i64 0, .int .u64 0, .int .u64 0, .int .u64 0, .int .u64 0, .slice none 0 0], .agg #[.bool true, .int .i64 3, .int .i64 2]]) ∧ Below w.heap.size w w' := by
  have hm := hmC2 hB
  obtain ⟨ao, cap, rfl⟩ := hB.short
  have hy0 := isB_getD (Bytes.at hB).2.2.1 4
  rw [hy] at hy0
  have hwy : IntKind.i64.wrap y = y := by rw [IntKind.wrap_i64]; omega
  obtain ⟨-, -, -, hat⟩ := Bytes.at hB
  obtain ⟨bq, off, rfl, c4⟩ := hat 4 y (by rw [← hy]; exact getD_some (by omega))
  have h4l : (4 : Int) < (l.length : Int) := by omega
  have R0 := psae0 w
  have F0 := psae1 w
  have I0 := psae2 w
  have k0 := psae3 w
  have c4 := cell_later k0.out c4
  clear hB h8 hy hat hy0
  go_enter Tryz.func57, Tryz.ntmps57
  have hy3 : (y == 255) = true := by simpa using hy2
  clear hy2
  go_upto_region 5 with fail
  have R6h : Hid (AB (((w.alloc (.cells #[.int .i64 0, .int .i64 0, .int .u64 0, .int .u64 0, .int .u64 0, .int .u64 0, .slice none 0 0] 34)).alloc (.cells #[.bool false, .int .i64 0, .int .i64 0] 44)).alloc (.cells #[.int .i64 1, .int .i64 y, .int .u64 0, .int .u64 0, .int .u64 0, .int .u64 0, .slice none 0 0] 34)) w.heap.size 34 [.int .i64 0, .int .i64 0, .int .u64 0, .int .u64 0, .int .u64 0, .int .u64 0, .slice none 0 0]) := h_ (((AB.at0 w 34 [.int .i64 0, .int .i64 0, .int .u64 0, .int .u64 0, .int .u64 0, .int .u64 0, .slice none 0 0]).alloc (.cells #[.bool false, .int .i64 0, .int .i64 0] 44)).alloc (.cells #[.int .i64 1, .int .i64 y, .int .u64 0, .int .u64 0, .int .u64 0, .int .u64 0, .slice none 0 0] 34))
  have F6h : Hid (AB (((w.alloc (.cells #[.int .i64 0, .int .i64 0, .int .u64 0, .int .u64 0, .int .u64 0, .int .u64 0, .slice none 0 0] 34)).alloc (.cells #[.bool false, .int .i64 0, .int .i64 0] 44)).alloc (.cells #[.int .i64 1, .int .i64 y, .int .u64 0, .int .u64 0, .int .u64 0, .int .u64 0, .slice none 0 0] 34)) (w.heap.size + 1) 44 [.bool false, .int .i64 0, .int .i64 0]) := h_ ((AB.at1 w (.cells #[.int .i64 0, .int .i64 0, .int .u64 0, .int .u64 0, .int .u64 0, .int .u64 0, .slice none 0 0] 34) 44 [.bool false, .int .i64 0, .int .i64 0]).alloc (.cells #[.int .i64 1, .int .i64 y, .int .u64 0, .int .u64 0, .int .u64 0, .int .u64 0, .slice none 0 0] 34))
  have I6h : Hid (AB (((w.alloc (.cells #[.int .i64 0, .int .i64 0, .int .u64 0, .int .u64 0, .int .u64 0, .int .u64 0, .slice none 0 0] 34)).alloc (.cells #[.bool false, .int .i64 0, .int .i64 0] 44)).alloc (.cells #[.int .i64 1, .int .i64 y, .int .u64 0, .int .u64 0, .int .u64 0, .int .u64 0, .slice none 0 0] 34)) (w.heap.size + 1 + 1) 34 [.int .i64 1, .int .i64 y, .int .u64 0, .int .u64 0, .int .u64 0, .int .u64 0, .slice none 0 0]) := h_ (by have := AB.at0 ((w.alloc (.cells #[.int .i64 0, .int .i64 0, .int .u64 0, .int .u64 0, .int .u64 0, .int .u64 0, .slice none 0 0] 34)).alloc (.cells #[.bool false, .int .i64 0, .int .i64 0] 44)) 34 [.int .i64 1, .int .i64 y, .int .u64 0, .int .u64 0, .int .u64 0, .int .u64 0, .slice none 0 0]; simpa using this)
  have k6h : Hid (Below w.heap.size w (((w.alloc (.cells #[.int .i64 0, .int .i64 0, .int .u64 0, .int .u64 0, .int .u64 0, .int .u64 0, .slice none 0 0] 34)).alloc (.cells #[.bool false, .int .i64 0, .int .i64 0] 44)).alloc (.cells #[.int .i64 1, .int .i64 y, .int .u64 0, .int .u64 0, .int .u64 0, .int .u64 0, .slice none 0 0] 34))) := h_ ((Below.refl _ _).alloc (Nat.le_refl _) _ |>.alloc (by simp) _ |>.alloc (by simp; omega) _)
  have R6 := R6h.out
  have F6 := F6h.out
  have I6_ := I6h.out
  have k6 := k6h.out
  clear c4 R6h F6h I6h k6h
  generalize (((w.alloc (.cells #[.int .i64 0, .int .i64 0, .int .u64 0, .int .u64 0, .int .u64 0, .int .u64 0, .slice none 0 0] 34)).alloc (.cells #[.bool false, .int .i64 0, .int .i64 0] 44)).alloc (.cells #[.int .i64 1, .int .i64 y, .int .u64 0, .int .u64 0, .int .u64 0, .int .u64 0, .slice none 0 0] 34)) = Y at *
  obtain ⟨i0, i1, -⟩ := I6_.k7
  go_upto_region 6 with fail
  go_wp2_with (go_at_call 54; refine (rbad14_any 2 _).mono ?_; rintro e w9 ⟨rfl, b9⟩; have R6 := R6.later b9; have F6 := F6.later b9; have k6 := k6.trans (b9.mono k6.size); obtain ⟨s0, s1, s2, s3, s4, s5, s6, s7, s8, s9, s10, s11, s12, s13⟩ := R6.k7; have F7 := F6.far7 (f := w.heap.size) (by omega) (.int .i64 0) (.int .i64 0) (.int .u64 0) (.int .u64 0) (.int .u64 0) (.int .u64 0) (.slice none 0 0); obtain ⟨p0, p1, p2, p3, p4, p5⟩ := F7.three; obtain ⟨u0, u1, u2, u3, u4, u5, u6, -⟩ := ((R6.set7 (.int .i64 0) (.int .i64 0) (.int .u64 0) (.int .u64 0) (.int .u64 0) (.int .u64 0) (.slice none 0 0)).farx3 (f := w.heap.size + 1) (by omega) (.bool true) (.int .i64 3) (.int .i64 2)).k7; obtain ⟨u7, u8, u9, -⟩ := (F7.set3 (.bool true) (.int .i64 3) (.int .i64 2)).three; have bb := below_set3 (g := w.heap.size + 1) (below_set7 (n := w.heap.size) k6 (Nat.le_refl _) (.int .i64 0) (.int .i64 0) (.int .u64 0) (.int .u64 0) (.int .u64 0) (.int .u64 0) (.slice none 0 0)) (by omega) (.bool true) (.int .i64 3) (.int .i64 2))
  exact bodyPost_ret (v := .tuple #[.agg #[.int .i64 0, .int .i64 0, .int .u64 0, .int .u64 0, .int .u64 0, .int .u64 0, .slice none 0 0], .agg #[.bool true, .int .i64 3, .int .i64 2]]) (by simp [results, Tryz.results57, go_sem, u0, u1, u2, u3, u4, u5, u6, u7, u8, u9]) rfl ⟨rfl, bb⟩
theorem ro_2 (v : Value) (l : List Int) (B D : Nat) (w : World) (hB : Bytes w v l) (h24 : 24 ≤ l.length) (hA : gx (l.drop 8) 8 = 0) (hA2 : gy (l.drop 8) 8 = B) (hC : gx (l.drop 16) 8 = 0) (hC2 : gy (l.drop 16) 8 = D) (hw : wi 0 B 0 D = true) :
    Calls Tryz.prog 57 #[.int .i64 2, v] w fun e w' => e = .returned (.tuple #[.agg #[.int .i64 2, .int .i64 0, .int .u64 0, .int .u64 (B : Int), .int .u64 0, .int .u64 (D : Int), .slice none 0 0], .agg #[.bool false, .int .i64 0, .int .i64 0]]) ∧ Below w.heap.size w w' := by
  have hm := hmC2 hB
  obtain ⟨ao, cap, rfl⟩ := hB.short
  have hBl : B < 18446744073709551616 := by rw [← hA2]; exact gy_lt _ _
  have hDl : D < 18446744073709551616 := by rw [← hC2]; exact gy_lt _ _
  obtain ⟨ao8, -, sl8, b8⟩ := bytes_slice hB 8 (by omega)
  have sl8 : ∀ wx, (Instr.slice 25 (.slice ao l.length cap) (some (.int .i64 8)) none none).run Tryz.prog wx = .ok (.slice ao8 (l.length - 8) (cap - 8)) wx := sl8
  obtain ⟨ao16, -, sl16, b16⟩ := bytes_slice hB 16 (by omega)
  have sl16 : ∀ wx, (Instr.slice 25 (.slice ao l.length cap) (some (.int .i64 16)) none none).run Tryz.prog wx = .ok (.slice ao16 (l.length - 16) (cap - 16)) wx := sl16
  have qa : Hid (∀ W, Below w.heap.size w W → Calls Tryz.prog 95 #[.slice ao8 (l.length - 8) (cap - 8), .int .i64 8] W fun e w' => ∃ zz, e = .returned (.tuple #[.agg #[.int .u64 0, .int .u64 (B : Int)], .bool zz]) ∧ Below W.heap.size W w') := h_ (fun W hW => (rwget_any _ _ 8 W (b8.later (w' := W) hW)).mono (fun e w' h => ⟨gok (l.drop 8) 8, by rw [h.1, hA, hA2]; rfl, h.2⟩))
  have qb : Hid (∀ W, Below w.heap.size w W → Calls Tryz.prog 95 #[.slice ao16 (l.length - 16) (cap - 16), .int .i64 8] W fun e w' => ∃ zz, e = .returned (.tuple #[.agg #[.int .u64 0, .int .u64 (D : Int)], .bool zz]) ∧ Below W.heap.size W w') := h_ (fun W hW => (rwget_any _ _ 8 W (b16.later (w' := W) hW)).mono (fun e w' h => ⟨gok (l.drop 16) 8, by rw [h.1, hC, hC2]; rfl, h.2⟩))
  have qm := fun W => rmeta_any 2 0 B D (.slice none 0 0) W hBl hDl
  rw [hw] at qm
  have qm := h_ qm
  have R0 := psae4 w
  have F0 := psae5 w
  have I0 := psae6 w
  have k0 := psae7 w
  clear hB b8 b16 hA hA2 hC hC2 h24 hw hBl hDl
  go_enter Tryz.func57, Tryz.ntmps57
  go_upto_region 9 with (go_at_call 95; refine (qa.out _ k0.out).mono ?_; rintro e w1 ⟨zz, rfl, b1⟩; have kk := h_ (k0.out.trans (b1.mono k0.out.size)); have RR := h_ (R0.out.later b1); have FF := h_ (F0.out.later b1); have II := h_ (I0.out.later b1); obtain ⟨i0, i1, i2, i3, i4, i5, i6, i7, i8, i9, i10, i11, i12, i13⟩ := II.out.k7; clear b1)
  have R0 := h_ ((RR.out.far (f := w.heap.size + 1 + 1) (o := 2) (.int .u64 0) (by omega)).far (f := w.heap.size + 1 + 1) (o := 3) (.int .u64 (B : Int)) (by omega))
  have F0 := h_ ((FF.out.far (f := w.heap.size + 1 + 1) (o := 2) (.int .u64 0) (by omega)).far (f := w.heap.size + 1 + 1) (o := 3) (.int .u64 (B : Int)) (by omega))
  have I0 : Hid (AB ((w1.setCell ⟨w.heap.size + 1 + 1, 2, none⟩ (.int .u64 0)).setCell ⟨w.heap.size + 1 + 1, 3, none⟩ (.int .u64 (B : Int))) (w.heap.size + 1 + 1) 34 [.int .i64 2, .int .i64 0, .int .u64 0, .int .u64 (B : Int), .int .u64 0, .int .u64 0, .slice none 0 0]) := h_ ((II.out.set (j := 2) _).set (j := 3) _)
  have k0 := h_ ((kk.out.setCell (p := ⟨w.heap.size + 1 + 1, 2, none⟩) (by dsimp only; omega) (.int .u64 0)).setCell (p := ⟨w.heap.size + 1 + 1, 3, none⟩) (by dsimp only; omega) (.int .u64 (B : Int)))
  clear i0 i1 i2 i3 i4 i5 i6 i7 i8 i9 i10 i11 i12 i13 RR FF II kk
  generalize ((w1.setCell ⟨w.heap.size + 1 + 1, 2, none⟩ (.int .u64 0)).setCell ⟨w.heap.size + 1 + 1, 3, none⟩ (.int .u64 (B : Int))) = X2 at *
  obtain ⟨i0, i1, i2, i3, i4, i5, i6, i7, i8, i9, i10, i11, i12, i13⟩ := I0.out.k7
  go_upto_region 10 with (go_at_call 95; refine (qb.out _ k0.out).mono ?_; rintro e w2 ⟨zz, rfl, b1⟩; have kk := h_ (k0.out.trans (b1.mono k0.out.size)); have RR := h_ (R0.out.later b1); have FF := h_ (F0.out.later b1); have II := h_ (I0.out.later b1); obtain ⟨i0, i1, i2, i3, i4, i5, i6, i7, i8, i9, i10, i11, i12, i13⟩ := II.out.k7; clear b1)
  have R0 := h_ ((RR.out.far (f := w.heap.size + 1 + 1) (o := 4) (.int .u64 0) (by omega)).far (f := w.heap.size + 1 + 1) (o := 5) (.int .u64 (D : Int)) (by omega))
  have F0 := h_ ((FF.out.far (f := w.heap.size + 1 + 1) (o := 4) (.int .u64 0) (by omega)).far (f := w.heap.size + 1 + 1) (o := 5) (.int .u64 (D : Int)) (by omega))
  have I0 : Hid (AB ((w2.setCell ⟨w.heap.size + 1 + 1, 4, none⟩ (.int .u64 0)).setCell ⟨w.heap.size + 1 + 1, 5, none⟩ (.int .u64 (D : Int))) (w.heap.size + 1 + 1) 34 [.int .i64 2, .int .i64 0, .int .u64 0, .int .u64 (B : Int), .int .u64 0, .int .u64 (D : Int), .slice none 0 0]) := h_ ((II.out.set (j := 4) _).set (j := 5) _)
  have k0 := h_ ((kk.out.setCell (p := ⟨w.heap.size + 1 + 1, 4, none⟩) (by dsimp only; omega) (.int .u64 0)).setCell (p := ⟨w.heap.size + 1 + 1, 5, none⟩) (by dsimp only; omega) (.int .u64 (D : Int)))
  clear i0 i1 i2 i3 i4 i5 i6 i7 i8 i9 i10 i11 i12 i13 RR FF II kk
  generalize ((w2.setCell ⟨w.heap.size + 1 + 1, 4, none⟩ (.int .u64 0)).setCell ⟨w.heap.size + 1 + 1, 5, none⟩ (.int .u64 (D : Int))) = X4 at *
  obtain ⟨i0, i1, i2, i3, i4, i5, i6, i7, i8, i9, i10, i11, i12, i13⟩ := I0.out.k7
  go_upto_region 18 with (go_at_call 50; refine (qm.out _).mono ?_; rintro e w5 ⟨rfl, b5⟩; have k5 := h_ (k0.out.trans (b5.mono k0.out.size)); have R5 := h_ (R0.out.later b5); have F5 := h_ (F0.out.later b5); have I5 := h_ (I0.out.later b5); clear b5)
  have R6 := R5.out
  have F6 := F5.out
  have I6_ := I5.out
  have k6 := k5.out
  obtain ⟨t0, t1, t2, t3, t4, t5, t6, t7, t8, t9, t10, t11, t12, t13⟩ := I6_.k7
  obtain ⟨s0, s1, s2, s3, s4, s5, s6, s7, s8, s9, s10, s11, s12, s13⟩ := R6.k7
  have F7 := F6.far7 (f := w.heap.size) (by omega) (.int .i64 2) (.int .i64 0) (.int .u64 0) (.int .u64 (B : Int)) (.int .u64 0) (.int .u64 (D : Int)) (.slice none 0 0)
  obtain ⟨p0, p1, p2, p3, p4, p5⟩ := F7.three
  obtain ⟨u0, u1, u2, u3, u4, u5, u6, -⟩ := ((R6.set7 (.int .i64 2) (.int .i64 0) (.int .u64 0) (.int .u64 (B : Int)) (.int .u64 0) (.int .u64 (D : Int)) (.slice none 0 0)).farx3 (f := w.heap.size + 1) (by omega) (.bool false) (.int .i64 0) (.int .i64 0)).k7
  obtain ⟨u7, u8, u9, -⟩ := (F7.set3 (.bool false) (.int .i64 0) (.int .i64 0)).three
  have bb := below_set3 (g := w.heap.size + 1) (below_set7 (n := w.heap.size) k6 (Nat.le_refl _) (.int .i64 2) (.int .i64 0) (.int .u64 0) (.int .u64 (B : Int)) (.int .u64 0) (.int .u64 (D : Int)) (.slice none 0 0)) (by omega) (.bool false) (.int .i64 0) (.int .i64 0)
  go_wp2_with fail
  exact bodyPost_ret (v := .tuple #[.agg #[.int .i64 2, .int .i64 0, .int .u64 0, .int .u64 (B : Int), .int .u64 0, .int .u64 (D : Int), .slice none 0 0], .agg #[.bool false, .int .i64 0, .int .i64 0]]) (by simp [results, Tryz.results57, go_sem, u0, u1, u2, u3, u4, u5, u6, u7, u8, u9]) rfl ⟨rfl, bb⟩
theorem ro_2x (v : Value) (l : List Int) (B D : Nat) (w : World) (hB : Bytes w v l) (h24 : 24 ≤ l.length) (hA : gx (l.drop 8) 8 = 0) (hA2 : gy (l.drop 8) 8 = B) (hC : gx (l.drop 16) 8 = 0) (hC2 : gy (l.drop 16) 8 = D) (hw : wi 0 B 0 D = false) :
    Calls Tryz.prog 57 #[.int .i64 2, v] w fun e w' => e = .returned (.tuple #[.agg #[.int .i64 0, .int .i64 0, .int .u64 0, .int .u64 0, .int .u64 0, .int .u64 0, .slice none 0 0], .agg #[.bool true, .int .i64 3, .int .i64 4]]) ∧ Below w.heap.size w w' := by
  have hm := hmC2 hB
  obtain ⟨ao, cap, rfl⟩ := hB.short
  have hBl : B < 18446744073709551616 := by rw [← hA2]; exact gy_lt _ _
  have hDl : D < 18446744073709551616 := by rw [← hC2]; exact gy_lt _ _
  obtain ⟨ao8, -, sl8, b8⟩ := bytes_slice hB 8 (by omega)
  have sl8 : ∀ wx, (Instr.slice 25 (.slice ao l.length cap) (some (.int .i64 8)) none none).run Tryz.prog wx = .ok (.slice ao8 (l.length - 8) (cap - 8)) wx := sl8
  obtain ⟨ao16, -, sl16, b16⟩ := bytes_slice hB 16 (by omega)
  have sl16 : ∀ wx, (Instr.slice 25 (.slice ao l.length cap) (some (.int .i64 16)) none none).run Tryz.prog wx = .ok (.slice ao16 (l.length - 16) (cap - 16)) wx := sl16
  have qa : Hid (∀ W, Below w.heap.size w W → Calls Tryz.prog 95 #[.slice ao8 (l.length - 8) (cap - 8), .int .i64 8] W fun e w' => ∃ zz, e = .returned (.tuple #[.agg #[.int .u64 0, .int .u64 (B : Int)], .bool zz]) ∧ Below W.heap.size W w') := h_ (fun W hW => (rwget_any _ _ 8 W (b8.later (w' := W) hW)).mono (fun e w' h => ⟨gok (l.drop 8) 8, by rw [h.1, hA, hA2]; rfl, h.2⟩))
  have qb : Hid (∀ W, Below w.heap.size w W → Calls Tryz.prog 95 #[.slice ao16 (l.length - 16) (cap - 16), .int .i64 8] W fun e w' => ∃ zz, e = .returned (.tuple #[.agg #[.int .u64 0, .int .u64 (D : Int)], .bool zz]) ∧ Below W.heap.size W w') := h_ (fun W hW => (rwget_any _ _ 8 W (b16.later (w' := W) hW)).mono (fun e w' h => ⟨gok (l.drop 16) 8, by rw [h.1, hC, hC2]; rfl, h.2⟩))
  have qm := fun W => rmeta_any 2 0 B D (.slice none 0 0) W hBl hDl
  rw [hw] at qm
  have qm := h_ qm
  have R0 := psae4 w
  have F0 := psae5 w
  have I0 := psae6 w
  have k0 := psae7 w
  clear hB b8 b16 hA hA2 hC hC2 h24 hw hBl hDl
  go_enter Tryz.func57, Tryz.ntmps57
  go_upto_region 9 with (go_at_call 95; refine (qa.out _ k0.out).mono ?_; rintro e w1 ⟨zz, rfl, b1⟩; have kk := h_ (k0.out.trans (b1.mono k0.out.size)); have RR := h_ (R0.out.later b1); have FF := h_ (F0.out.later b1); have II := h_ (I0.out.later b1); obtain ⟨i0, i1, i2, i3, i4, i5, i6, i7, i8, i9, i10, i11, i12, i13⟩ := II.out.k7; clear b1)
  have R0 := h_ ((RR.out.far (f := w.heap.size + 1 + 1) (o := 2) (.int .u64 0) (by omega)).far (f := w.heap.size + 1 + 1) (o := 3) (.int .u64 (B : Int)) (by omega))
  have F0 := h_ ((FF.out.far (f := w.heap.size + 1 + 1) (o := 2) (.int .u64 0) (by omega)).far (f := w.heap.size + 1 + 1) (o := 3) (.int .u64 (B : Int)) (by omega))
  have I0 : Hid (AB ((w1.setCell ⟨w.heap.size + 1 + 1, 2, none⟩ (.int .u64 0)).setCell ⟨w.heap.size + 1 + 1, 3, none⟩ (.int .u64 (B : Int))) (w.heap.size + 1 + 1) 34 [.int .i64 2, .int .i64 0, .int .u64 0, .int .u64 (B : Int), .int .u64 0, .int .u64 0, .slice none 0 0]) := h_ ((II.out.set (j := 2) _).set (j := 3) _)
  have k0 := h_ ((kk.out.setCell (p := ⟨w.heap.size + 1 + 1, 2, none⟩) (by dsimp only; omega) (.int .u64 0)).setCell (p := ⟨w.heap.size + 1 + 1, 3, none⟩) (by dsimp only; omega) (.int .u64 (B : Int)))
  clear i0 i1 i2 i3 i4 i5 i6 i7 i8 i9 i10 i11 i12 i13 RR FF II kk
  generalize ((w1.setCell ⟨w.heap.size + 1 + 1, 2, none⟩ (.int .u64 0)).setCell ⟨w.heap.size + 1 + 1, 3, none⟩ (.int .u64 (B : Int))) = X2 at *
  obtain ⟨i0, i1, i2, i3, i4, i5, i6, i7, i8, i9, i10, i11, i12, i13⟩ := I0.out.k7
  go_upto_region 10 with (go_at_call 95; refine (qb.out _ k0.out).mono ?_; rintro e w2 ⟨zz, rfl, b1⟩; have kk := h_ (k0.out.trans (b1.mono k0.out.size)); have RR := h_ (R0.out.later b1); have FF := h_ (F0.out.later b1); have II := h_ (I0.out.later b1); obtain ⟨i0, i1, i2, i3, i4, i5, i6, i7, i8, i9, i10, i11, i12, i13⟩ := II.out.k7; clear b1)
  have R0 := h_ ((RR.out.far (f := w.heap.size + 1 + 1) (o := 4) (.int .u64 0) (by omega)).far (f := w.heap.size + 1 + 1) (o := 5) (.int .u64 (D : Int)) (by omega))
  have F0 := h_ ((FF.out.far (f := w.heap.size + 1 + 1) (o := 4) (.int .u64 0) (by omega)).far (f := w.heap.size + 1 + 1) (o := 5) (.int .u64 (D : Int)) (by omega))
  have I0 : Hid (AB ((w2.setCell ⟨w.heap.size + 1 + 1, 4, none⟩ (.int .u64 0)).setCell ⟨w.heap.size + 1 + 1, 5, none⟩ (.int .u64 (D : Int))) (w.heap.size + 1 + 1) 34 [.int .i64 2, .int .i64 0, .int .u64 0, .int .u64 (B : Int), .int .u64 0, .int .u64 (D : Int), .slice none 0 0]) := h_ ((II.out.set (j := 4) _).set (j := 5) _)
  have k0 := h_ ((kk.out.setCell (p := ⟨w.heap.size + 1 + 1, 4, none⟩) (by dsimp only; omega) (.int .u64 0)).setCell (p := ⟨w.heap.size + 1 + 1, 5, none⟩) (by dsimp only; omega) (.int .u64 (D : Int)))
  clear i0 i1 i2 i3 i4 i5 i6 i7 i8 i9 i10 i11 i12 i13 RR FF II kk
  generalize ((w2.setCell ⟨w.heap.size + 1 + 1, 4, none⟩ (.int .u64 0)).setCell ⟨w.heap.size + 1 + 1, 5, none⟩ (.int .u64 (D : Int))) = X4 at *
  obtain ⟨i0, i1, i2, i3, i4, i5, i6, i7, i8, i9, i10, i11, i12, i13⟩ := I0.out.k7
  go_upto_region 11 with (go_at_call 50; refine (qm.out _).mono ?_; rintro e w5 ⟨rfl, b5⟩; have k5 := h_ (k0.out.trans (b5.mono k0.out.size)); have R5 := h_ (R0.out.later b5); have F5 := h_ (F0.out.later b5); have I5 := h_ (I0.out.later b5); clear b5)
  go_wp2_with (go_at_call 54; refine (rbad14_any 4 _).mono ?_; rintro e w9 ⟨rfl, b9⟩; have R6 := R5.out.later b9; have F6 := F5.out.later b9; have k6 := k5.out.trans (b9.mono k5.out.size); obtain ⟨s0, s1, s2, s3, s4, s5, s6, s7, s8, s9, s10, s11, s12, s13⟩ := R6.k7; have F7 := F6.far7 (f := w.heap.size) (by omega) (.int .i64 0) (.int .i64 0) (.int .u64 0) (.int .u64 0) (.int .u64 0) (.int .u64 0) (.slice none 0 0); obtain ⟨p0, p1, p2, p3, p4, p5⟩ := F7.three; obtain ⟨u0, u1, u2, u3, u4, u5, u6, -⟩ := ((R6.set7 (.int .i64 0) (.int .i64 0) (.int .u64 0) (.int .u64 0) (.int .u64 0) (.int .u64 0) (.slice none 0 0)).farx3 (f := w.heap.size + 1) (by omega) (.bool true) (.int .i64 3) (.int .i64 4)).k7; obtain ⟨u7, u8, u9, -⟩ := (F7.set3 (.bool true) (.int .i64 3) (.int .i64 4)).three; have bb := below_set3 (g := w.heap.size + 1) (below_set7 (n := w.heap.size) k6 (Nat.le_refl _) (.int .i64 0) (.int .i64 0) (.int .u64 0) (.int .u64 0) (.int .u64 0) (.int .u64 0) (.slice none 0 0)) (by omega) (.bool true) (.int .i64 3) (.int .i64 4))
  exact bodyPost_ret (v := .tuple #[.agg #[.int .i64 0, .int .i64 0, .int .u64 0, .int .u64 0, .int .u64 0, .int .u64 0, .slice none 0 0], .agg #[.bool true, .int .i64 3, .int .i64 4]]) (by simp [results, Tryz.results57, go_sem, u0, u1, u2, u3, u4, u5, u6, u7, u8, u9]) rfl ⟨rfl, bb⟩
end Go.Proofs.YthhijfphfcmniaaGreat
