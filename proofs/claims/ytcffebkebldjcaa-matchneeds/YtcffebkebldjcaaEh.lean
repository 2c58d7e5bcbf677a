import Derived.Test.YtcffebkebldjcaaPa
import Derived.Test.YtcffebkebldjcaaEg
import Derived.Test.YtcffebkebldjcaaEd
import Derived.Test.YtcffebkebldjcaaEc
import Derived.Test.YtcffebkebldjcaaEf
import Derived.Deep.RegionHeld3
import Derived.Deep.RegionWith
import Derived.Deep.MidRow
import Derived.Deep.Cut
namespace Go.Proofs.Ytcffebkebldjcaa
open Go Go.RowKit
set_option linter.unusedVariables false
set_option linter.unusedSimpArgs false

set_option maxRecDepth 100000 in
set_option maxHeartbeats 4000000 in
theorem clo_any (z : Int) (w : World) :
    Calls Try.prog 53 #[.int .u8 z] w fun e w' => e = .returned (.bool (z != 0)) ∧ w' = w := by
  go_enter Try.func53, Try.ntmps53
  go_wp2_with fail
  go_ret
  exact ⟨rfl, rfl⟩

set_option maxRecDepth 100000 in
set_option maxHeartbeats 4000000 in
theorem idx_any (v : Value) (l : List Int) (w : World) (hB : Bytes w v l) :
    Calls Try.prog 86 #[v, (.func (.func 53) #[] #[])] w fun e w' => (∃ i : Int, e = .returned (.int .i64 i) ∧ (decide (0 ≤ i)) = nzB l) ∧ Below w.heap.size w w' := by
  obtain ⟨ao, cap, rfl, h1, h2, h3, h4, h5⟩ := hB
  have hB : Bytes w (.slice ao l.length cap) l := ⟨ao, cap, rfl, h1, h2, h3, h4, h5⟩
  obtain ⟨-, -, -, hat⟩ := Bytes.at hB
  have H := hide_ hat
  have hm : l.length ≤ 9223372036854775807 := by unfold maxLen at h2; omega
  clear hat hB h1 h2 h3 h4 h5
  go_enter Try.func86, Try.ntmps86
  go_wp2
  go_loopw [5, 8] (fun _ i wr => ∃ k : Nat, k ≤ l.length ∧ i = .int .i64 k ∧ Hid (nzB (l.take k) = false) ∧ Below w.heap.size w wr) (fun _ i _ => l.length - (intOf i).toNat)
  case atStart => exact ⟨0, Nat.zero_le _, rfl, rfl, Below.refl _ _⟩
  case round =>
    obtain ⟨k, hk, rfl, HT, hb⟩ := hrel
    by_cases hlt : k < l.length
    · obtain ⟨z, hz⟩ : ∃ z, l[k]? = some z := ⟨_, List.getElem?_eq_getElem hlt⟩
      obtain ⟨b, off, rfl, c1⟩ := H.out k z hz
      have c1 := cell_later hb c1
      have HZ := hide_ hz
      clear hz
      have hlt' : (k : Int) < (l.length : Int) := by omega
      by_cases h0 : z = 0
      · subst h0
        go_wp2_with (go_at_call 53; refine (clo_any _ _).mono ?_; rintro e w' ⟨rfl, rfl⟩)
        go_roundw
        case rel => exact ⟨k + 1, by omega, by go_num, by show _ = _; rw [List.take_add_one, HZ.out]; unfold nzB at *; rw [List.any_append, HT.out]; rfl, hb⟩
        case measure => simp [intOf]; omega
      · have hne : (z != 0) = true := by simpa using h0
        have H0 := hide_ h0
        clear h0
        go_wp2_with (go_at_call 53; refine (clo_any _ _).mono ?_; rintro e w' ⟨rfl, rfl⟩)
        go_ret
        refine ⟨⟨_, rfl, ?_⟩, hb⟩
        have e1 : nzB l = true := by
          unfold nzB
          rw [List.any_eq_true]
          exact ⟨z, List.mem_of_getElem? HZ.out, by simpa using H0.out⟩
        rw [e1]
        simp
    · have hlt' : ¬ (k : Int) < (l.length : Int) := by omega
      go_wp2
      go_ret
      refine ⟨⟨_, rfl, ?_⟩, hb⟩
      have e := HT.out
      rw [List.take_of_length_le (by omega)] at e
      rw [e]
      rfl

set_option maxRecDepth 100000 in
set_option maxHeartbeats 4000000 in
theorem cont_any (v : Value) (l : List Int) (w : World) (hB : Bytes w v l) :
    Calls Try.prog 52 #[v, (.func (.func 53) #[] #[])] w fun e w' => e = .returned (.bool (nzB l)) ∧ Below w.heap.size w w' := by
  have q := hide_ (idx_any v l w hB)
  generalize nzB l = z at *
  clear hB
  go_enter Try.func52, Try.ntmps52
  go_wp2_with (go_at_call 86; refine q.out.mono ?_; rintro e w1 ⟨⟨i, rfl, hi⟩, b1⟩)
  go_ret
  exact ⟨by rw [← hi]; rfl, b1⟩

set_option maxRecDepth 100000 in
set_option maxHeartbeats 4000000 in
theorem md_head (v : Value) (cc : Int) (w : World) (qL : ∀ W, Below w.heap.size w W → Calls Try.prog 50 #[v] W fun e w' => e = .returned (.tuple #[.int .i64 0, .agg #[.bool true, .int .i64 4, .int .i64 cc]]) ∧ Below W.heap.size W w') :
    Calls Try.prog 20 #[v] w fun e w' => e = .returned (.tuple #[.slice none 0 0, .int .i64 0, .agg #[.bool true, .int .i64 4, .int .i64 cc]]) ∧ Below w.heap.size w w' := by
  have F0 := hide_ (AB.at0 w 30 [.bool false, .int .i64 0, .int .i64 0])
  have B0 := hide_ (below1 w (.cells #[.bool false, .int .i64 0, .int .i64 0] 30))
  have hg0 : w.heap.size < (w.alloc (.cells #[.bool false, .int .i64 0, .int .i64 0] 30)).heap.size := by simp
  have qL := hide_ qL
  go_enter Try.func20, Try.ntmps20
  go_upto_region 3 with (go_at_call 50; refine (qL.out _ B0.out).mono ?_; rintro e w1 ⟨rfl, k1⟩; have K2 : Below (w.alloc (.cells #[.bool false, .int .i64 0, .int .i64 0] 30)).heap.size (w.alloc (.cells #[.bool false, .int .i64 0, .int .i64 0] 30)) (w1.alloc (.cells #[.bool true, .int .i64 4, .int .i64 cc] 30)) := k1.trans ((below1 w1 _).mono k1.size); have hgw := Nat.lt_of_lt_of_le hg0 k1.size; have F6 := hide_ (AB.at0 w1 30 [.bool true, .int .i64 4, .int .i64 cc]); obtain ⟨fa0, fa1, fa2, -⟩ := F6.out.three)
  have FX := hide_ (F6.out)
  have KX := K2
  generalize (w1.alloc (.cells #[.bool true, .int .i64 4, .int .i64 cc] 30)) = X at *
  have FD := (F0.out.later KX : AB X w.heap.size 30 [.bool false, .int .i64 0, .int .i64 0])
  have FD : AB X.drew w.heap.size 30 [.bool false, .int .i64 0, .int .i64 0] := FD
  obtain ⟨d0, d1, d2, -⟩ := FX.out.three
  obtain ⟨s0, s1, s2, s3, s4, s5⟩ := FD.three
  obtain ⟨u0, u1, u2, -⟩ := (FD.set3 (.bool true) (.int .i64 4) (.int .i64 cc)).three
  have BX := B0.out.trans (KX.mono B0.out.size)
  clear FD
  clear fa0 fa1 fa2 F6
  refine wp_region_held_drew (S := (fun w' => w'.cell? ⟨w1.heap.size, 0, none⟩ = some (.bool true) ∧ w'.cell? ⟨w1.heap.size, 1, none⟩ = some (.int .i64 4) ∧ w'.cell? ⟨w1.heap.size, 2, none⟩ = some (.int .i64 cc) ∧ Below w.heap.size w w')) (by kernel_rfl) (⟨d0, d1, d2, BX.drew⟩) (fun hHeld => ?_)
  generalize X.drew = D at *
  refine takeR (i := 0) (v := ?_) rfl (by kernel_rfl) (by kernel_rfl) (by kernel_rfl) (some 16) rfl (Or.inl ⟨by rfl, ?_⟩) (fun _ _ _ h => h) (by assumption) ?_
  rotate_left
  · intro w hSw; (try dsimp only at hSw); go_simp; (try with_reducible rfl)
  simp only [Act.put, List.setIfInBounds_toArray, List.set_cons_zero, List.set_cons_succ]
  refine takeR (i := 1) (v := ?_) rfl (by kernel_rfl) (by kernel_rfl) (by kernel_rfl) (some 2) rfl (Or.inl ⟨by rfl, ?_⟩) (fun _ _ _ h => h) (by assumption) ?_
  rotate_left
  · intro w hSw; (try dsimp only at hSw); go_simp; (try with_reducible rfl)
  simp only [Act.put, List.setIfInBounds_toArray, List.set_cons_zero, List.set_cons_succ]
  refine takeR (i := 2) (v := ?_) rfl (by kernel_rfl) (by kernel_rfl) (by kernel_rfl) (some 3) rfl (Or.inl ⟨by rfl, ?_⟩) (fun _ _ _ h => h) (by assumption) ?_
  rotate_left
  · intro w hSw; (try dsimp only at hSw); go_simp; (try with_reducible rfl)
  simp only [Act.put, List.setIfInBounds_toArray, List.set_cons_zero, List.set_cons_succ]
  refine wpAnyH_ready (rs := [3]) (by kernel_rfl) (by simp) ?_
  refine AllReadyH.cons rfl (fun K hK => ?_) (AllReadyH.nil)
  go_simp
  refine hK.out _ _ (kW3_3 hHeld (by omega) (by dsimp only; omega) (by dsimp only; omega) (by dsimp only; omega)) (fun hHeld => ?_)
  clear hK K
  try simp only [Act.put, List.setIfInBounds_toArray, List.set_cons_zero, List.set_cons_succ]
  refine wpAnyH_done (by kernel_rfl) ?_ _
  go_wp2_with fail
  exact bodyPost_ret (v := .tuple #[.slice none 0 0, .int .i64 0, .agg #[.bool true, .int .i64 4, .int .i64 cc]]) (by simp [results, Try.results20, go_sem, u0, u1, u2]) rfl ⟨rfl, hHeld.2.2.2⟩

set_option maxRecDepth 100000 in
set_option maxHeartbeats 4000000 in
theorem md_parts (v : Value) (v1 : Value) (n : Nat) (cc : Int) (w : World) (qL : ∀ W, Below w.heap.size w W → Calls Try.prog 50 #[v] W fun e w' => e = .returned (.tuple #[.int .i64 (n : Int), .agg #[.bool false, .int .i64 0, .int .i64 0]]) ∧ Below W.heap.size W w') (hs1 : ∀ wx, (Instr.slice 24 v (some (.int .i64 4)) (some (.int .i64 (n : Int))) none).run Try.prog wx = .ok v1 wx) (qR : ∀ W, Below w.heap.size w W → Calls Try.prog 51 #[v1] W fun e w' => e = .returned (.tuple #[.slice none 0 0, .agg #[.bool true, .int .i64 4, .int .i64 cc]]) ∧ Below W.heap.size W w') :
    Calls Try.prog 20 #[v] w fun e w' => e = .returned (.tuple #[.slice none 0 0, .int .i64 0, .agg #[.bool true, .int .i64 4, .int .i64 cc]]) ∧ Below w.heap.size w w' := by
  have F0 := hide_ (AB.at0 w 30 [.bool false, .int .i64 0, .int .i64 0])
  have B0 := hide_ (below1 w (.cells #[.bool false, .int .i64 0, .int .i64 0] 30))
  have hg0 : w.heap.size < (w.alloc (.cells #[.bool false, .int .i64 0, .int .i64 0] 30)).heap.size := by simp
  have qL := hide_ qL
  have qR := hide_ qR
  go_enter Try.func20, Try.ntmps20
  go_upto_region 6 with (first | (go_at_call 50; refine (qL.out _ B0.out).mono ?_; rintro e w1 ⟨rfl, k1⟩; have K2 : Below (w.alloc (.cells #[.bool false, .int .i64 0, .int .i64 0] 30)).heap.size (w.alloc (.cells #[.bool false, .int .i64 0, .int .i64 0] 30)) (w1.alloc (.cells #[.bool false, .int .i64 0, .int .i64 0] 30)) := k1.trans ((below1 w1 _).mono k1.size); have hgw := Nat.lt_of_lt_of_le hg0 k1.size; have F6 := hide_ (AB.at0 w1 30 [.bool false, .int .i64 0, .int .i64 0]); obtain ⟨fa0, fa1, fa2, -⟩ := F6.out.three) | (go_at_call 51; refine (qR.out _ (B0.out.trans (K2.mono B0.out.size))).mono ?_; rintro e w3 ⟨rfl, b3⟩; obtain ⟨fb0, fb1, fb2, fb3, fb4, fb5⟩ := (F6.out.later b3).three; have F8 := hide_ ((F6.out.later b3).set3 (.bool true) (.int .i64 4) (.int .i64 cc)); obtain ⟨fc0, fc1, fc2, -⟩ := F8.out.three; have K4 : Below (w.alloc (.cells #[.bool false, .int .i64 0, .int .i64 0] 30)).heap.size (w.alloc (.cells #[.bool false, .int .i64 0, .int .i64 0] 30)) (((w3.setCell ⟨w1.heap.size, 0, none⟩ (.bool true)).setCell ⟨w1.heap.size, 1, none⟩ (.int .i64 4)).setCell ⟨w1.heap.size, 2, none⟩ (.int .i64 cc)) := below_set3 (K2.trans (b3.mono K2.size)) k1.size (.bool true) (.int .i64 4) (.int .i64 cc)))
  have FX := hide_ (F8.out)
  have KX := K4
  generalize (((w3.setCell ⟨w1.heap.size, 0, none⟩ (.bool true)).setCell ⟨w1.heap.size, 1, none⟩ (.int .i64 4)).setCell ⟨w1.heap.size, 2, none⟩ (.int .i64 cc)) = X at *
  have FD := (F0.out.later KX : AB X w.heap.size 30 [.bool false, .int .i64 0, .int .i64 0])
  have FD : AB X.drew w.heap.size 30 [.bool false, .int .i64 0, .int .i64 0] := FD
  obtain ⟨d0, d1, d2, -⟩ := FX.out.three
  obtain ⟨s0, s1, s2, s3, s4, s5⟩ := FD.three
  obtain ⟨u0, u1, u2, -⟩ := (FD.set3 (.bool true) (.int .i64 4) (.int .i64 cc)).three
  have BX := B0.out.trans (KX.mono B0.out.size)
  clear FD
  clear fa0 fa1 fa2 fb0 fb1 fb2 fb3 fb4 fb5 fc0 fc1 fc2 F6 F8
  refine wp_region_held_drew (S := (fun w' => w'.cell? ⟨w1.heap.size, 0, none⟩ = some (.bool true) ∧ w'.cell? ⟨w1.heap.size, 1, none⟩ = some (.int .i64 4) ∧ w'.cell? ⟨w1.heap.size, 2, none⟩ = some (.int .i64 cc) ∧ Below w.heap.size w w')) (by kernel_rfl) (⟨d0, d1, d2, BX.drew⟩) (fun hHeld => ?_)
  generalize X.drew = D at *
  refine takeR (i := 0) (v := ?_) rfl (by kernel_rfl) (by kernel_rfl) (by kernel_rfl) (some 26) rfl (Or.inl ⟨by rfl, ?_⟩) (fun _ _ _ h => h) (by assumption) ?_
  rotate_left
  · intro w hSw; (try dsimp only at hSw); go_simp; (try with_reducible rfl)
  simp only [Act.put, List.setIfInBounds_toArray, List.set_cons_zero, List.set_cons_succ]
  refine takeR (i := 1) (v := ?_) rfl (by kernel_rfl) (by kernel_rfl) (by kernel_rfl) (some 2) rfl (Or.inl ⟨by rfl, ?_⟩) (fun _ _ _ h => h) (by assumption) ?_
  rotate_left
  · intro w hSw; (try dsimp only at hSw); go_simp; (try with_reducible rfl)
  simp only [Act.put, List.setIfInBounds_toArray, List.set_cons_zero, List.set_cons_succ]
  refine takeR (i := 2) (v := ?_) rfl (by kernel_rfl) (by kernel_rfl) (by kernel_rfl) (some 3) rfl (Or.inl ⟨by rfl, ?_⟩) (fun _ _ _ h => h) (by assumption) ?_
  rotate_left
  · intro w hSw; (try dsimp only at hSw); go_simp; (try with_reducible rfl)
  simp only [Act.put, List.setIfInBounds_toArray, List.set_cons_zero, List.set_cons_succ]
  refine wpAnyH_ready (rs := [3]) (by kernel_rfl) (by simp) ?_
  refine AllReadyH.cons rfl (fun K hK => ?_) (AllReadyH.nil)
  go_simp
  refine hK.out _ _ (kW3_3 hHeld (by omega) (by dsimp only; omega) (by dsimp only; omega) (by dsimp only; omega)) (fun hHeld => ?_)
  clear hK K
  try simp only [Act.put, List.setIfInBounds_toArray, List.set_cons_zero, List.set_cons_succ]
  refine wpAnyH_done (by kernel_rfl) ?_ _
  go_wp2_with fail
  exact bodyPost_ret (v := .tuple #[.slice none 0 0, .int .i64 0, .agg #[.bool true, .int .i64 4, .int .i64 cc]]) (by simp [results, Try.results20, go_sem, u0, u1, u2]) rfl ⟨rfl, hHeld.2.2.2⟩

set_option maxRecDepth 100000 in
set_option maxHeartbeats 4000000 in
theorem md_chk (v : Value) (v1 : Value) (n : Nat) (L : List O6) (cc : Int) (w : World) (qL : ∀ W, Below w.heap.size w W → Calls Try.prog 50 #[v] W fun e w' => e = .returned (.tuple #[.int .i64 (n : Int), .agg #[.bool false, .int .i64 0, .int .i64 0]]) ∧ Below W.heap.size W w') (hs1 : ∀ wx, (Instr.slice 24 v (some (.int .i64 4)) (some (.int .i64 (n : Int))) none).run Try.prog wx = .ok v1 wx) (qR : ∀ W, Below w.heap.size w W → Calls Try.prog 51 #[v1] W fun e w' => (∃ r, e = .returned (.tuple #[r, .agg #[.bool false, .int .i64 0, .int .i64 0]]) ∧ w'.ownsRow W.heap.size 51 6 r L.length (ods L)) ∧ Below W.heap.size W w') (hck : fo4 (mchk [] L) = .agg #[.bool true, .int .i64 4, .int .i64 cc]) :
    Calls Try.prog 20 #[v] w fun e w' => e = .returned (.tuple #[.slice none 0 0, .int .i64 0, .agg #[.bool true, .int .i64 4, .int .i64 cc]]) ∧ Below w.heap.size w w' := by
  have F0 := hide_ (AB.at0 w 30 [.bool false, .int .i64 0, .int .i64 0])
  have B0 := hide_ (below1 w (.cells #[.bool false, .int .i64 0, .int .i64 0] 30))
  have hg0 : w.heap.size < (w.alloc (.cells #[.bool false, .int .i64 0, .int .i64 0] 30)).heap.size := by simp
  have qL := hide_ qL
  have qR := hide_ qR
  go_enter Try.func20, Try.ntmps20
  go_upto_region 9 with (first | (go_at_call 50; refine (qL.out _ B0.out).mono ?_; rintro e w1 ⟨rfl, k1⟩; have K2 : Below (w.alloc (.cells #[.bool false, .int .i64 0, .int .i64 0] 30)).heap.size (w.alloc (.cells #[.bool false, .int .i64 0, .int .i64 0] 30)) (w1.alloc (.cells #[.bool false, .int .i64 0, .int .i64 0] 30)) := k1.trans ((below1 w1 _).mono k1.size); have hgw := Nat.lt_of_lt_of_le hg0 k1.size; have F6 := hide_ (AB.at0 w1 30 [.bool false, .int .i64 0, .int .i64 0]); obtain ⟨fa0, fa1, fa2, -⟩ := F6.out.three) | (go_at_call 51; refine (qR.out _ (B0.out.trans (K2.mono B0.out.size))).mono ?_; rintro e w3 ⟨⟨rl, rfl, ow⟩, b3⟩; obtain ⟨fb0, fb1, fb2, fb3, fb4, fb5⟩ := (F6.out.later b3).three; have F8 := hide_ ((F6.out.later b3).set3 (.bool false) (.int .i64 0) (.int .i64 0)); obtain ⟨fc0, fc1, fc2, -⟩ := F8.out.three; have K4 : Below (w.alloc (.cells #[.bool false, .int .i64 0, .int .i64 0] 30)).heap.size (w.alloc (.cells #[.bool false, .int .i64 0, .int .i64 0] 30)) (((w3.setCell ⟨w1.heap.size, 0, none⟩ (.bool false)).setCell ⟨w1.heap.size, 1, none⟩ (.int .i64 0)).setCell ⟨w1.heap.size, 2, none⟩ (.int .i64 0)) := below_set3 (K2.trans (b3.mono K2.size)) k1.size (.bool false) (.int .i64 0) (.int .i64 0); have OW := hide_ (oxfar3 (g := w1.heap.size) ow (by simp) (.bool false) (.int .i64 0) (.int .i64 0)); have OXc := hide_ (OxAt.ofOwn OW.out); have hX1 : (w.alloc (.cells #[.bool false, .int .i64 0, .int .i64 0] 30)).heap.size ≤ (w1.alloc (.cells #[.bool false, .int .i64 0, .int .i64 0] 30)).heap.size := K2.size) | (go_at_call 12; refine (mcheck_any rl L _ OXc.out).mono ?_; rw [hck]; rintro e w5 ⟨rfl, b5⟩; obtain ⟨fd0, fd1, fd2, fd3, fd4, fd5⟩ := (F8.out.later b5).three; have F9 := hide_ ((F8.out.later b5).set3 (.bool true) (.int .i64 4) (.int .i64 cc)); obtain ⟨fe0, fe1, fe2, -⟩ := F9.out.three; have K6 : Below (w.alloc (.cells #[.bool false, .int .i64 0, .int .i64 0] 30)).heap.size (w.alloc (.cells #[.bool false, .int .i64 0, .int .i64 0] 30)) (((w5.setCell ⟨w1.heap.size, 0, none⟩ (.bool true)).setCell ⟨w1.heap.size, 1, none⟩ (.int .i64 4)).setCell ⟨w1.heap.size, 2, none⟩ (.int .i64 cc)) := below_set3 (K4.trans (b5.mono K4.size)) k1.size (.bool true) (.int .i64 4) (.int .i64 cc); have OW6 := hide_ (oxfar3 (g := w1.heap.size) (own6_later OW.out b5) (by simp) (.bool true) (.int .i64 4) (.int .i64 cc))))
  have FX := hide_ (F9.out)
  have KX := K6
  generalize (((w5.setCell ⟨w1.heap.size, 0, none⟩ (.bool true)).setCell ⟨w1.heap.size, 1, none⟩ (.int .i64 4)).setCell ⟨w1.heap.size, 2, none⟩ (.int .i64 cc)) = X at *
  have FD := (F0.out.later KX : AB X w.heap.size 30 [.bool false, .int .i64 0, .int .i64 0])
  have FD : AB X.drew w.heap.size 30 [.bool false, .int .i64 0, .int .i64 0] := FD
  obtain ⟨d0, d1, d2, -⟩ := FX.out.three
  obtain ⟨s0, s1, s2, s3, s4, s5⟩ := FD.three
  obtain ⟨u0, u1, u2, -⟩ := (FD.set3 (.bool true) (.int .i64 4) (.int .i64 cc)).three
  have BX := B0.out.trans (KX.mono B0.out.size)
  clear FD
  clear fa0 fa1 fa2 fb0 fb1 fb2 fb3 fb4 fb5 fc0 fc1 fc2 fd0 fd1 fd2 fd3 fd4 fd5 fe0 fe1 fe2 F6 F8 F9
  refine wp_region_held_drew (S := (fun w' => w'.cell? ⟨w1.heap.size, 0, none⟩ = some (.bool true) ∧ w'.cell? ⟨w1.heap.size, 1, none⟩ = some (.int .i64 4) ∧ w'.cell? ⟨w1.heap.size, 2, none⟩ = some (.int .i64 cc) ∧ Below w.heap.size w w')) (by kernel_rfl) (⟨d0, d1, d2, BX.drew⟩) (fun hHeld => ?_)
  generalize X.drew = D at *
  refine takeR (i := 0) (v := ?_) rfl (by kernel_rfl) (by kernel_rfl) (by kernel_rfl) (some 31) rfl (Or.inl ⟨by rfl, ?_⟩) (fun _ _ _ h => h) (by assumption) ?_
  rotate_left
  · intro w hSw; (try dsimp only at hSw); go_simp; (try with_reducible rfl)
  simp only [Act.put, List.setIfInBounds_toArray, List.set_cons_zero, List.set_cons_succ]
  refine takeR (i := 1) (v := ?_) rfl (by kernel_rfl) (by kernel_rfl) (by kernel_rfl) (some 2) rfl (Or.inl ⟨by rfl, ?_⟩) (fun _ _ _ h => h) (by assumption) ?_
  rotate_left
  · intro w hSw; (try dsimp only at hSw); go_simp; (try with_reducible rfl)
  simp only [Act.put, List.setIfInBounds_toArray, List.set_cons_zero, List.set_cons_succ]
  refine takeR (i := 2) (v := ?_) rfl (by kernel_rfl) (by kernel_rfl) (by kernel_rfl) (some 3) rfl (Or.inl ⟨by rfl, ?_⟩) (fun _ _ _ h => h) (by assumption) ?_
  rotate_left
  · intro w hSw; (try dsimp only at hSw); go_simp; (try with_reducible rfl)
  simp only [Act.put, List.setIfInBounds_toArray, List.set_cons_zero, List.set_cons_succ]
  refine wpAnyH_ready (rs := [3]) (by kernel_rfl) (by simp) ?_
  refine AllReadyH.cons rfl (fun K hK => ?_) (AllReadyH.nil)
  go_simp
  refine hK.out _ _ (kW3_3 hHeld (by omega) (by dsimp only; omega) (by dsimp only; omega) (by dsimp only; omega)) (fun hHeld => ?_)
  clear hK K
  try simp only [Act.put, List.setIfInBounds_toArray, List.set_cons_zero, List.set_cons_succ]
  refine wpAnyH_done (by kernel_rfl) ?_ _
  go_wp2_with fail
  exact bodyPost_ret (v := .tuple #[.slice none 0 0, .int .i64 0, .agg #[.bool true, .int .i64 4, .int .i64 cc]]) (by simp [results, Try.results20, go_sem, u0, u1, u2]) rfl ⟨rfl, hHeld.2.2.2⟩

set_option maxRecDepth 100000 in
set_option maxHeartbeats 4000000 in
theorem md_nz (v : Value) (v1 : Value) (n : Nat) (L : List O6) (v2 : Value) (w : World) (qL : ∀ W, Below w.heap.size w W → Calls Try.prog 50 #[v] W fun e w' => e = .returned (.tuple #[.int .i64 (n : Int), .agg #[.bool false, .int .i64 0, .int .i64 0]]) ∧ Below W.heap.size W w') (hs1 : ∀ wx, (Instr.slice 24 v (some (.int .i64 4)) (some (.int .i64 (n : Int))) none).run Try.prog wx = .ok v1 wx) (qR : ∀ W, Below w.heap.size w W → Calls Try.prog 51 #[v1] W fun e w' => (∃ r, e = .returned (.tuple #[r, .agg #[.bool false, .int .i64 0, .int .i64 0]]) ∧ w'.ownsRow W.heap.size 51 6 r L.length (ods L)) ∧ Below W.heap.size W w') (hck : fo4 (mchk [] L) = .agg #[.bool false, .int .i64 0, .int .i64 0]) (hnb : n ≤ 100000) (hs2 : ∀ wx, (Instr.slice 24 v (some (.int .i64 (n : Int))) (some (.int .i64 ((r8 n : Nat) : Int))) none).run Try.prog wx = .ok v2 wx) (qC : ∀ W, Below w.heap.size w W → Calls Try.prog 52 #[v2, (.func (.func 53) #[] #[])] W fun e w' => e = .returned (.bool true) ∧ Below W.heap.size W w') :
    Calls Try.prog 20 #[v] w fun e w' => e = .returned (.tuple #[.slice none 0 0, .int .i64 0, .agg #[.bool true, .int .i64 4, .int .i64 1]]) ∧ Below w.heap.size w w' := by
  have F0 := hide_ (AB.at0 w 30 [.bool false, .int .i64 0, .int .i64 0])
  have B0 := hide_ (below1 w (.cells #[.bool false, .int .i64 0, .int .i64 0] 30))
  have hg0 : w.heap.size < (w.alloc (.cells #[.bool false, .int .i64 0, .int .i64 0] 30)).heap.size := by simp
  have qL := hide_ qL
  have qR := hide_ qR
  have qr := hide_ (fun k w => mrefuse_any k w)
  have qo := hide_ (fun w => mround_any n w (by omega))
  generalize r8 n = rr at *
  have qC := hide_ qC
  go_enter Try.func20, Try.ntmps20
  go_wp2_with (first | (go_at_call 50; refine (qL.out _ B0.out).mono ?_; rintro e w1 ⟨rfl, k1⟩; have K2 : Below (w.alloc (.cells #[.bool false, .int .i64 0, .int .i64 0] 30)).heap.size (w.alloc (.cells #[.bool false, .int .i64 0, .int .i64 0] 30)) (w1.alloc (.cells #[.bool false, .int .i64 0, .int .i64 0] 30)) := k1.trans ((below1 w1 _).mono k1.size); have hgw := Nat.lt_of_lt_of_le hg0 k1.size; have F6 := hide_ (AB.at0 w1 30 [.bool false, .int .i64 0, .int .i64 0]); obtain ⟨fa0, fa1, fa2, -⟩ := F6.out.three) | (go_at_call 51; refine (qR.out _ (B0.out.trans (K2.mono B0.out.size))).mono ?_; rintro e w3 ⟨⟨rl, rfl, ow⟩, b3⟩; obtain ⟨fb0, fb1, fb2, fb3, fb4, fb5⟩ := (F6.out.later b3).three; have F8 := hide_ ((F6.out.later b3).set3 (.bool false) (.int .i64 0) (.int .i64 0)); obtain ⟨fc0, fc1, fc2, -⟩ := F8.out.three; have K4 : Below (w.alloc (.cells #[.bool false, .int .i64 0, .int .i64 0] 30)).heap.size (w.alloc (.cells #[.bool false, .int .i64 0, .int .i64 0] 30)) (((w3.setCell ⟨w1.heap.size, 0, none⟩ (.bool false)).setCell ⟨w1.heap.size, 1, none⟩ (.int .i64 0)).setCell ⟨w1.heap.size, 2, none⟩ (.int .i64 0)) := below_set3 (K2.trans (b3.mono K2.size)) k1.size (.bool false) (.int .i64 0) (.int .i64 0); have OW := hide_ (oxfar3 (g := w1.heap.size) ow (by simp) (.bool false) (.int .i64 0) (.int .i64 0)); have OXc := hide_ (OxAt.ofOwn OW.out); have hX1 : (w.alloc (.cells #[.bool false, .int .i64 0, .int .i64 0] 30)).heap.size ≤ (w1.alloc (.cells #[.bool false, .int .i64 0, .int .i64 0] 30)).heap.size := K2.size) | (go_at_call 12; refine (mcheck_any rl L _ OXc.out).mono ?_; rw [hck]; rintro e w5 ⟨rfl, b5⟩; obtain ⟨fd0, fd1, fd2, fd3, fd4, fd5⟩ := (F8.out.later b5).three; have F9 := hide_ ((F8.out.later b5).set3 (.bool false) (.int .i64 0) (.int .i64 0)); obtain ⟨fe0, fe1, fe2, -⟩ := F9.out.three; have K6 : Below (w.alloc (.cells #[.bool false, .int .i64 0, .int .i64 0] 30)).heap.size (w.alloc (.cells #[.bool false, .int .i64 0, .int .i64 0] 30)) (((w5.setCell ⟨w1.heap.size, 0, none⟩ (.bool false)).setCell ⟨w1.heap.size, 1, none⟩ (.int .i64 0)).setCell ⟨w1.heap.size, 2, none⟩ (.int .i64 0)) := below_set3 (K4.trans (b5.mono K4.size)) k1.size (.bool false) (.int .i64 0) (.int .i64 0); have OW6 := hide_ (oxfar3 (g := w1.heap.size) (own6_later OW.out b5) (by simp) (.bool false) (.int .i64 0) (.int .i64 0))) | (go_at_call 33; refine (qo.out _).mono ?_; rintro e w' ⟨rfl, rfl⟩) | (go_at_call 52; refine (qC.out _ (B0.out.trans (K6.mono B0.out.size))).mono ?_; rintro e w7 ⟨rfl, b7⟩; have K7 := K6.trans (b7.mono K6.size); obtain ⟨t0, t1, t2, t3, t4, t5⟩ := (F0.out.later K7).three; obtain ⟨v0, v1', v2', -⟩ := ((F0.out.later K7).set3 (.bool false) (.int .i64 0) (.int .i64 0)).three; have bc := below_set3 (g := w.heap.size) (B0.out.trans (K7.mono B0.out.size)) (Nat.le_refl _) (.bool false) (.int .i64 0) (.int .i64 0)) | (go_at_call 37; refine (qr.out _ _).mono ?_; rintro e w9 ⟨rfl, b9⟩; have K9 := K7.trans (b9.mono K7.size); obtain ⟨s0, s1, s2, s3, s4, s5⟩ := (F0.out.later K9).three; obtain ⟨u0, u1, u2, -⟩ := ((F0.out.later K9).set3 (.bool true) (.int .i64 4) (.int .i64 1)).three; have bb := below_set3 (g := w.heap.size) (B0.out.trans (K9.mono B0.out.size)) (Nat.le_refl _) (.bool true) (.int .i64 4) (.int .i64 1)))
  exact bodyPost_ret (v := .tuple #[.slice none 0 0, .int .i64 0, .agg #[.bool true, .int .i64 4, .int .i64 1]]) (by simp [results, Try.results20, go_sem, u0, u1, u2]) rfl ⟨rfl, bb⟩

set_option maxRecDepth 100000 in
set_option maxHeartbeats 4000000 in
theorem md_ok (v : Value) (v1 : Value) (n : Nat) (L : List O6) (v2 : Value) (w : World) (qL : ∀ W, Below w.heap.size w W → Calls Try.prog 50 #[v] W fun e w' => e = .returned (.tuple #[.int .i64 (n : Int), .agg #[.bool false, .int .i64 0, .int .i64 0]]) ∧ Below W.heap.size W w') (hs1 : ∀ wx, (Instr.slice 24 v (some (.int .i64 4)) (some (.int .i64 (n : Int))) none).run Try.prog wx = .ok v1 wx) (qR : ∀ W, Below w.heap.size w W → Calls Try.prog 51 #[v1] W fun e w' => (∃ r, e = .returned (.tuple #[r, .agg #[.bool false, .int .i64 0, .int .i64 0]]) ∧ w'.ownsRow W.heap.size 51 6 r L.length (ods L)) ∧ Below W.heap.size W w') (hck : fo4 (mchk [] L) = .agg #[.bool false, .int .i64 0, .int .i64 0]) (hnb : n ≤ 100000) (hs2 : ∀ wx, (Instr.slice 24 v (some (.int .i64 (n : Int))) (some (.int .i64 ((r8 n : Nat) : Int))) none).run Try.prog wx = .ok v2 wx) (qC : ∀ W, Below w.heap.size w W → Calls Try.prog 52 #[v2, (.func (.func 53) #[] #[])] W fun e w' => e = .returned (.bool false) ∧ Below W.heap.size W w') :
    Calls Try.prog 20 #[v] w fun e w' => (∃ r, e = .returned (.tuple #[r, .int .i64 ((r8 n : Nat) : Int), .agg #[.bool false, .int .i64 0, .int .i64 0]]) ∧ OxAt w' r L) ∧ Below w.heap.size w w' := by
  have F0 := hide_ (AB.at0 w 30 [.bool false, .int .i64 0, .int .i64 0])
  have B0 := hide_ (below1 w (.cells #[.bool false, .int .i64 0, .int .i64 0] 30))
  have hg0 : w.heap.size < (w.alloc (.cells #[.bool false, .int .i64 0, .int .i64 0] 30)).heap.size := by simp
  have qL := hide_ qL
  have qR := hide_ qR
  have qo := hide_ (fun w => mround_any n w (by omega))
  generalize r8 n = rr at *
  have qC := hide_ qC
  go_enter Try.func20, Try.ntmps20
  go_wp2_with (first | (go_at_call 50; refine (qL.out _ B0.out).mono ?_; rintro e w1 ⟨rfl, k1⟩; have K2 : Below (w.alloc (.cells #[.bool false, .int .i64 0, .int .i64 0] 30)).heap.size (w.alloc (.cells #[.bool false, .int .i64 0, .int .i64 0] 30)) (w1.alloc (.cells #[.bool false, .int .i64 0, .int .i64 0] 30)) := k1.trans ((below1 w1 _).mono k1.size); have hgw := Nat.lt_of_lt_of_le hg0 k1.size; have F6 := hide_ (AB.at0 w1 30 [.bool false, .int .i64 0, .int .i64 0]); obtain ⟨fa0, fa1, fa2, -⟩ := F6.out.three) | (go_at_call 51; refine (qR.out _ (B0.out.trans (K2.mono B0.out.size))).mono ?_; rintro e w3 ⟨⟨rl, rfl, ow⟩, b3⟩; obtain ⟨fb0, fb1, fb2, fb3, fb4, fb5⟩ := (F6.out.later b3).three; have F8 := hide_ ((F6.out.later b3).set3 (.bool false) (.int .i64 0) (.int .i64 0)); obtain ⟨fc0, fc1, fc2, -⟩ := F8.out.three; have K4 : Below (w.alloc (.cells #[.bool false, .int .i64 0, .int .i64 0] 30)).heap.size (w.alloc (.cells #[.bool false, .int .i64 0, .int .i64 0] 30)) (((w3.setCell ⟨w1.heap.size, 0, none⟩ (.bool false)).setCell ⟨w1.heap.size, 1, none⟩ (.int .i64 0)).setCell ⟨w1.heap.size, 2, none⟩ (.int .i64 0)) := below_set3 (K2.trans (b3.mono K2.size)) k1.size (.bool false) (.int .i64 0) (.int .i64 0); have OW := hide_ (oxfar3 (g := w1.heap.size) ow (by simp) (.bool false) (.int .i64 0) (.int .i64 0)); have OXc := hide_ (OxAt.ofOwn OW.out); have hX1 : (w.alloc (.cells #[.bool false, .int .i64 0, .int .i64 0] 30)).heap.size ≤ (w1.alloc (.cells #[.bool false, .int .i64 0, .int .i64 0] 30)).heap.size := K2.size) | (go_at_call 12; refine (mcheck_any rl L _ OXc.out).mono ?_; rw [hck]; rintro e w5 ⟨rfl, b5⟩; obtain ⟨fd0, fd1, fd2, fd3, fd4, fd5⟩ := (F8.out.later b5).three; have F9 := hide_ ((F8.out.later b5).set3 (.bool false) (.int .i64 0) (.int .i64 0)); obtain ⟨fe0, fe1, fe2, -⟩ := F9.out.three; have K6 : Below (w.alloc (.cells #[.bool false, .int .i64 0, .int .i64 0] 30)).heap.size (w.alloc (.cells #[.bool false, .int .i64 0, .int .i64 0] 30)) (((w5.setCell ⟨w1.heap.size, 0, none⟩ (.bool false)).setCell ⟨w1.heap.size, 1, none⟩ (.int .i64 0)).setCell ⟨w1.heap.size, 2, none⟩ (.int .i64 0)) := below_set3 (K4.trans (b5.mono K4.size)) k1.size (.bool false) (.int .i64 0) (.int .i64 0); have OW6 := hide_ (oxfar3 (g := w1.heap.size) (own6_later OW.out b5) (by simp) (.bool false) (.int .i64 0) (.int .i64 0))) | (go_at_call 33; refine (qo.out _).mono ?_; rintro e w' ⟨rfl, rfl⟩) | (go_at_call 52; refine (qC.out _ (B0.out.trans (K6.mono B0.out.size))).mono ?_; rintro e w7 ⟨rfl, b7⟩; have K7 := K6.trans (b7.mono K6.size); obtain ⟨t0, t1, t2, t3, t4, t5⟩ := (F0.out.later K7).three; obtain ⟨v0, v1', v2', -⟩ := ((F0.out.later K7).set3 (.bool false) (.int .i64 0) (.int .i64 0)).three; have bc := below_set3 (g := w.heap.size) (B0.out.trans (K7.mono B0.out.size)) (Nat.le_refl _) (.bool false) (.int .i64 0) (.int .i64 0)))
  have OWf := oxfar3 (g := w.heap.size) (own6_later OW6.out b7) (by omega) (.bool false) (.int .i64 0) (.int .i64 0)
  exact bodyPost_ret (v := .tuple #[rl, .int .i64 (rr : Int), .agg #[.bool false, .int .i64 0, .int .i64 0]]) (by simp [results, Try.results20, go_sem, v0, v1', v2']) rfl ⟨⟨_, rfl, OxAt.ofOwn OWf⟩, bc⟩


end Go.Proofs.Ytcffebkebldjcaa
