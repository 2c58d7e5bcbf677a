import Derived.Test.YthhijfphfcmniaaGreatOpe
import Derived.Test.YthhijfphfcmniaaGreatOqe
import Derived.Deep.RegionHeld3
import Derived.Deep.RegionWith
import Derived.Deep.MidRow
import Derived.Deep.Cut
set_option maxRecDepth 100000
set_option maxHeartbeats 8000000
set_option linter.unusedVariables false
set_option linter.unusedSimpArgs false
namespace Go.Proofs.YthhijfphfcmniaaGreat
open Go Go.RowKit
theorem rodec_any (v : Value) (l : List Int) (w : World) (hB : Bytes w v l) :
    Calls Tryz.prog 168 #[v] w fun e w' => e = .returned (decV l) ∧ Below w.heap.size w w' := by
  have hiB : isB l := by obtain ⟨_, _, _, _, _, h, _⟩ := hB; exact h
  obtain ⟨ao, cap, rfl, hc1, hc2, hiB2, hnone, hcell⟩ := hB
  have hB : Bytes w (.slice ao l.length cap) l := ⟨ao, cap, rfl, hc1, hc2, hiB2, hnone, hcell⟩
  clear hnone hcell hiB2
  have O0 := h_ ((AB.at0 w 59 [.int .i64 0, .bool false, .int .u64 0, .int .u64 0, .int .u64 0, .int .u64 0]).alloc (.cells #[.bool false, .int .i64 0, .int .i64 0] 44))
  have F0 := h_ (AB.at1 w (.cells #[.int .i64 0, .bool false, .int .u64 0, .int .u64 0, .int .u64 0, .int .u64 0] 59) 44 [.bool false, .int .i64 0, .int .i64 0])
  have B0 := h_ (below2 w (.cells #[.int .i64 0, .bool false, .int .u64 0, .int .u64 0, .int .u64 0, .int .u64 0] 59) (.cells #[.bool false, .int .i64 0, .int .i64 0] 44))
  have hn0 : w.heap.size + 1 < ((w.alloc (.cells #[.int .i64 0, .bool false, .int .u64 0, .int .u64 0, .int .u64 0, .int .u64 0] 59)).alloc (.cells #[.bool false, .int .i64 0, .int .i64 0] 44)).heap.size := by simp
  have qr := h_ (fun k w => rbad_any k w)
  unfold fv at qr
  obtain ⟨R, hR⟩ : ∃ R, decV l = R := ⟨_, rfl⟩
  rw [hR]
  unfold decV at hR
  unfold maxLen at hc2
  by_cases h4 : l.length < 4
  · have e : Hid (Value.tuple #[.agg #[.int .i64 0, .bool false, .int .u64 0, .int .u64 0, .int .u64 0, .int .u64 0], .int .i64 0, .agg #[.bool true, .int .i64 4, .int .i64 1]] = R) := h_ (by rw [← hR, headR_short h4]; rfl)
    generalize l.length = n at *
    have h4' : (n : Int) < 4 := by omega
    clear hB hiB hR
    go_enter Tryz.func168, Tryz.ntmps168
    go_wp2_with (first | (go_at_call 179; refine (qr.out _ _).mono ?_; rintro e w1 ⟨rfl, b1⟩; have k1 := b1; obtain ⟨s0, s1, s2, s3, s4, s5, s6, s7, s8, s9, s10, s11⟩ := (O0.out.later k1).six; obtain ⟨t0, t1, t2, t3, t4, t5⟩ := ((F0.out.later k1).far6 (h := w.heap.size) (by omega) (.int .i64 0) (.bool false) (.int .u64 0) (.int .u64 0) (.int .u64 0) (.int .u64 0)).three))
    have ZA := ((O0.out.later k1).set6 (.int .i64 0) (.bool false) (.int .u64 0) (.int .u64 0) (.int .u64 0) (.int .u64 0)).far3 (h := (w.heap.size + 1)) (by omega) (.bool true) (.int .i64 4) (.int .i64 1)
    have ZF := ((F0.out.later k1).far6 (h := w.heap.size) (by omega) (.int .i64 0) (.bool false) (.int .u64 0) (.int .u64 0) (.int .u64 0) (.int .u64 0)).set3 (.bool true) (.int .i64 4) (.int .i64 1)
    obtain ⟨h0, h1, h2, h3, h4, h5, -⟩ := ZA.six
    obtain ⟨h6, h7, h8, -⟩ := ZF.three
    exact bodyPost_ret (v := .tuple #[.agg #[.int .i64 0, .bool false, .int .u64 0, .int .u64 0, .int .u64 0, .int .u64 0], .int .i64 0, .agg #[.bool true, .int .i64 4, .int .i64 1]]) (by simp [results, Tryz.results168, go_sem, h0, h1, h2, h3, h4, h5, h6, h7, h8]) rfl ⟨congrArg _ e.out, below_set3 (g := (w.heap.size + 1)) (below_set6 (g := w.heap.size) (B0.out.trans (k1.mono B0.out.size)) (by omega) _ _ _ _ _ _) (by omega) _ _ _⟩
  · have hdrop : 4 ≤ l.length := by omega
    obtain ⟨ao', -, hsl, hB4⟩ := bytes_slice hB 4 hdrop
    obtain ⟨z0, z1, z2, z3, r, rfl⟩ := four_of h4
    obtain ⟨-, -, -, hat⟩ := hB.at
    obtain ⟨bb, off, rfl, d0⟩ := hat 0 z0 rfl
    obtain ⟨bb', off', e', d1⟩ := hat 1 z1 rfl
    cases e'
    obtain ⟨bb', off', e', d2⟩ := hat 2 z2 rfl
    cases e'
    obtain ⟨bb', off', e', d3⟩ := hat 3 z3 rfl
    cases e'
    have i0 := hiB z0 (by simp)
    have i1 := hiB z1 (by simp)
    have i2 := hiB z2 (by simp)
    have i3 := hiB z3 (by simp)
    have hlen : (z0 :: z1 :: z2 :: z3 :: r).length = r.length + 4 := by simp
    have D0 : Hid (((w.alloc (.cells #[.int .i64 0, .bool false, .int .u64 0, .int .u64 0, .int .u64 0, .int .u64 0] 59)).alloc (.cells #[.bool false, .int .i64 0, .int .i64 0] 44)).cell? ⟨bb, off, none⟩ = some (.int .u8 z0)) := h_ (cell_later B0.out d0)
    have D1 : Hid (((w.alloc (.cells #[.int .i64 0, .bool false, .int .u64 0, .int .u64 0, .int .u64 0, .int .u64 0] 59)).alloc (.cells #[.bool false, .int .i64 0, .int .i64 0] 44)).cell? ⟨bb, off + 1, none⟩ = some (.int .u8 z1)) := h_ (cell_later B0.out d1)
    have D2 : Hid (((w.alloc (.cells #[.int .i64 0, .bool false, .int .u64 0, .int .u64 0, .int .u64 0, .int .u64 0] 59)).alloc (.cells #[.bool false, .int .i64 0, .int .i64 0] 44)).cell? ⟨bb, off + 2, none⟩ = some (.int .u8 z2)) := h_ (cell_later B0.out d2)
    have D3 : Hid (((w.alloc (.cells #[.int .i64 0, .bool false, .int .u64 0, .int .u64 0, .int .u64 0, .int .u64 0] 59)).alloc (.cells #[.bool false, .int .i64 0, .int .i64 0] 44)).cell? ⟨bb, off + 3, none⟩ = some (.int .u8 z3)) := h_ (cell_later B0.out d3)
    have qi := fun w => rindex_any (z2 / 2) w
    have HE : Hid (headR (z0 :: z1 :: z2 :: z3 :: r) = if (r.length : Int) < z3 then ((1 : Int), (0 : Int), false) else
      match fidx (z2 / 2) with
      | none => (6, 0, false)
      | some j =>
        if z0 * 256 + z1 = 32768 then
          (if (decide (z2 % 2 = 1) && !(fmask (j : Int))) = true then (8, 0, false) else if z3 = foll (j : Int) (decide (z2 % 2 = 1)) then (0, (j : Int), decide (z2 % 2 = 1)) else (1, 0, false))
        else (6, 0, false)) := h_ rfl
    have hh4 : (z0 :: z1 :: z2 :: z3 :: r).drop 4 = r := rfl
    have hBr := fun h => headR_len (l := z0 :: z1 :: z2 :: z3 :: r) (f := (headR (z0 :: z1 :: z2 :: z3 :: r)).2.1) (m := (headR (z0 :: z1 :: z2 :: z3 :: r)).2.2) h
    rw [hh4] at hB4 hR
    rw [hlen] at hc1 hsl hB4 ⊢
    have hsl : ∀ wx, (Instr.slice 25 (.slice (some ⟨bb, off, none⟩) (r.length + 4) cap) (some (.int .i64 4)) none none).run Tryz.prog wx = .ok (.slice ao' (r.length + 4 - 4) (cap - 4)) wx := hsl
    have HB := h_ hB
    have HB4 := h_ hB4
    have HiB : Hid (isB r) := h_ (fun z hz => hiB z (by simp [hz]))
    clear hat hB d0 d1 d2 d3 h4 hiB hdrop hh4 hB4
    have hq1 : Int.tdiv z2 2 = z2 / 2 := Int.tdiv_eq_ediv_of_nonneg i2.1
    have hq2 : Int.tmod z2 2 = z2 % 2 := Int.tmod_eq_emod_of_nonneg i2.1
    have hq3 : IntKind.u8.wrap (z2 / 2) = z2 / 2 := by rw [IntKind.wrap_u8]; omega
    have hq4 : IntKind.u8.wrap (z2 % 2) = z2 % 2 := by rw [IntKind.wrap_u8]; omega
    have hq3i : IntKind.i64.wrap (z2 / 2) = z2 / 2 := by rw [IntKind.wrap_i64]; omega
    have hq5i : IntKind.i64.wrap z3 = z3 := by rw [IntKind.wrap_i64]; omega
    have hn4 : ¬ (((r.length + 4 : Nat) : Int) < 4) := by omega
    have hq5 : ((r.length + 4 : Nat) : Int) - 4 = (r.length : Int) := by omega
    have hq6 : IntKind.i64.wrap (r.length : Int) = (r.length : Int) := by rw [IntKind.wrap_i64]; omega
    have y0 := D0.out
    have y1 := D1.out
    have y2 := D2.out
    have y3 := D3.out
    by_cases hs : (r.length : Int) < z3
    · have e : Hid (Value.tuple #[.agg #[.int .i64 0, .bool false, .int .u64 0, .int .u64 0, .int .u64 0, .int .u64 0], .int .i64 0, .agg #[.bool true, .int .i64 4, .int .i64 1]] = R) := h_ (by rw [← hR, HE.out, if_pos hs]; rfl)
      clear hR HE qi HB HB4 hsl
      go_enter Tryz.func168, Tryz.ntmps168
      go_wp2_with (first | (go_at_call 179; refine (qr.out _ _).mono ?_; rintro e w1 ⟨rfl, b1⟩; have k1 := b1; obtain ⟨s0, s1, s2, s3, s4, s5, s6, s7, s8, s9, s10, s11⟩ := (O0.out.later k1).six; obtain ⟨t0, t1, t2, t3, t4, t5⟩ := ((F0.out.later k1).far6 (h := w.heap.size) (by omega) (.int .i64 0) (.bool false) (.int .u64 0) (.int .u64 0) (.int .u64 0) (.int .u64 0)).three))
      have ZA := ((O0.out.later k1).set6 (.int .i64 0) (.bool false) (.int .u64 0) (.int .u64 0) (.int .u64 0) (.int .u64 0)).far3 (h := (w.heap.size + 1)) (by omega) (.bool true) (.int .i64 4) (.int .i64 1)
      have ZF := ((F0.out.later k1).far6 (h := w.heap.size) (by omega) (.int .i64 0) (.bool false) (.int .u64 0) (.int .u64 0) (.int .u64 0) (.int .u64 0)).set3 (.bool true) (.int .i64 4) (.int .i64 1)
      obtain ⟨h0, h1, h2, h3, h4, h5, -⟩ := ZA.six
      obtain ⟨h6, h7, h8, -⟩ := ZF.three
      exact bodyPost_ret (v := .tuple #[.agg #[.int .i64 0, .bool false, .int .u64 0, .int .u64 0, .int .u64 0, .int .u64 0], .int .i64 0, .agg #[.bool true, .int .i64 4, .int .i64 1]]) (by simp [results, Tryz.results168, go_sem, h0, h1, h2, h3, h4, h5, h6, h7, h8]) rfl ⟨congrArg _ e.out, below_set3 (g := (w.heap.size + 1)) (below_set6 (g := w.heap.size) (B0.out.trans (k1.mono B0.out.size)) (by omega) _ _ _ _ _ _) (by omega) _ _ _⟩
    · rw [if_neg hs] at HE
      unfold idxt at qi
      cases hfi : fidx (z2 / 2) with
      | none =>
        rw [hfi] at qi HE
        have qi := h_ qi
        have e : Hid (Value.tuple #[.agg #[.int .i64 0, .bool false, .int .u64 0, .int .u64 0, .int .u64 0, .int .u64 0], .int .i64 0, .agg #[.bool true, .int .i64 4, .int .i64 6]] = R) := h_ (by rw [← hR, HE.out]; rfl)
        clear hR HE HB HB4 hsl
        have hor : z0 = 128 ∨ (¬ z0 = 128 ∧ (z0 == 128) = false) := by
          by_cases h : z0 = 128
          · exact .inl h
          · exact .inr ⟨h, by simpa using h⟩
        rcases hor with rfl | ⟨hz0n, hz0⟩
        · have hor : z1 = 0 ∨ (¬ z1 = 0 ∧ (z1 == 0) = false) := by
            by_cases h : z1 = 0
            · exact .inl h
            · exact .inr ⟨h, by simpa using h⟩
          rcases hor with rfl | ⟨hz1n, hz1⟩
          · go_enter Tryz.func168, Tryz.ntmps168
            go_wp2_with (first | (go_at_call 180; refine (qi.out _).mono ?_; rintro e w1 ⟨rfl, k1⟩; have c0 := cell_later k1 D0.out; have c1 := cell_later k1 D1.out; have c2 := cell_later k1 D2.out; have c3 := cell_later k1 D3.out) | (go_at_call 179; refine (qr.out _ _).mono ?_; rintro e w2 ⟨rfl, b2⟩; have k2 := k1.trans (b2.mono k1.size); obtain ⟨s0, s1, s2, s3, s4, s5, s6, s7, s8, s9, s10, s11⟩ := (O0.out.later k2).six; obtain ⟨t0, t1, t2, t3, t4, t5⟩ := ((F0.out.later k2).far6 (h := w.heap.size) (by omega) (.int .i64 0) (.bool false) (.int .u64 0) (.int .u64 0) (.int .u64 0) (.int .u64 0)).three))
            have ZA := ((O0.out.later k2).set6 (.int .i64 0) (.bool false) (.int .u64 0) (.int .u64 0) (.int .u64 0) (.int .u64 0)).far3 (h := (w.heap.size + 1)) (by omega) (.bool true) (.int .i64 4) (.int .i64 6)
            have ZF := ((F0.out.later k2).far6 (h := w.heap.size) (by omega) (.int .i64 0) (.bool false) (.int .u64 0) (.int .u64 0) (.int .u64 0) (.int .u64 0)).set3 (.bool true) (.int .i64 4) (.int .i64 6)
            obtain ⟨h0, h1, h2, h3, h4, h5, -⟩ := ZA.six
            obtain ⟨h6, h7, h8, -⟩ := ZF.three
            exact bodyPost_ret (v := .tuple #[.agg #[.int .i64 0, .bool false, .int .u64 0, .int .u64 0, .int .u64 0, .int .u64 0], .int .i64 0, .agg #[.bool true, .int .i64 4, .int .i64 6]]) (by simp [results, Tryz.results168, go_sem, h0, h1, h2, h3, h4, h5, h6, h7, h8]) rfl ⟨congrArg _ e.out, below_set3 (g := (w.heap.size + 1)) (below_set6 (g := w.heap.size) (B0.out.trans (k2.mono B0.out.size)) (by omega) _ _ _ _ _ _) (by omega) _ _ _⟩
          · go_enter Tryz.func168, Tryz.ntmps168
            go_wp2_with (first | (go_at_call 180; refine (qi.out _).mono ?_; rintro e w1 ⟨rfl, k1⟩; have c0 := cell_later k1 D0.out; have c1 := cell_later k1 D1.out; have c2 := cell_later k1 D2.out; have c3 := cell_later k1 D3.out) | (go_at_call 179; refine (qr.out _ _).mono ?_; rintro e w2 ⟨rfl, b2⟩; have k2 := k1.trans (b2.mono k1.size); obtain ⟨s0, s1, s2, s3, s4, s5, s6, s7, s8, s9, s10, s11⟩ := (O0.out.later k2).six; obtain ⟨t0, t1, t2, t3, t4, t5⟩ := ((F0.out.later k2).far6 (h := w.heap.size) (by omega) (.int .i64 0) (.bool false) (.int .u64 0) (.int .u64 0) (.int .u64 0) (.int .u64 0)).three))
            have ZA := ((O0.out.later k2).set6 (.int .i64 0) (.bool false) (.int .u64 0) (.int .u64 0) (.int .u64 0) (.int .u64 0)).far3 (h := (w.heap.size + 1)) (by omega) (.bool true) (.int .i64 4) (.int .i64 6)
            have ZF := ((F0.out.later k2).far6 (h := w.heap.size) (by omega) (.int .i64 0) (.bool false) (.int .u64 0) (.int .u64 0) (.int .u64 0) (.int .u64 0)).set3 (.bool true) (.int .i64 4) (.int .i64 6)
            obtain ⟨h0, h1, h2, h3, h4, h5, -⟩ := ZA.six
            obtain ⟨h6, h7, h8, -⟩ := ZF.three
            exact bodyPost_ret (v := .tuple #[.agg #[.int .i64 0, .bool false, .int .u64 0, .int .u64 0, .int .u64 0, .int .u64 0], .int .i64 0, .agg #[.bool true, .int .i64 4, .int .i64 6]]) (by simp [results, Tryz.results168, go_sem, h0, h1, h2, h3, h4, h5, h6, h7, h8]) rfl ⟨congrArg _ e.out, below_set3 (g := (w.heap.size + 1)) (below_set6 (g := w.heap.size) (B0.out.trans (k2.mono B0.out.size)) (by omega) _ _ _ _ _ _) (by omega) _ _ _⟩
        · go_enter Tryz.func168, Tryz.ntmps168
          go_wp2_with (first | (go_at_call 180; refine (qi.out _).mono ?_; rintro e w1 ⟨rfl, k1⟩; have c0 := cell_later k1 D0.out; have c1 := cell_later k1 D1.out; have c2 := cell_later k1 D2.out; have c3 := cell_later k1 D3.out) | (go_at_call 179; refine (qr.out _ _).mono ?_; rintro e w2 ⟨rfl, b2⟩; have k2 := k1.trans (b2.mono k1.size); obtain ⟨s0, s1, s2, s3, s4, s5, s6, s7, s8, s9, s10, s11⟩ := (O0.out.later k2).six; obtain ⟨t0, t1, t2, t3, t4, t5⟩ := ((F0.out.later k2).far6 (h := w.heap.size) (by omega) (.int .i64 0) (.bool false) (.int .u64 0) (.int .u64 0) (.int .u64 0) (.int .u64 0)).three))
          have ZA := ((O0.out.later k2).set6 (.int .i64 0) (.bool false) (.int .u64 0) (.int .u64 0) (.int .u64 0) (.int .u64 0)).far3 (h := (w.heap.size + 1)) (by omega) (.bool true) (.int .i64 4) (.int .i64 6)
          have ZF := ((F0.out.later k2).far6 (h := w.heap.size) (by omega) (.int .i64 0) (.bool false) (.int .u64 0) (.int .u64 0) (.int .u64 0) (.int .u64 0)).set3 (.bool true) (.int .i64 4) (.int .i64 6)
          obtain ⟨h0, h1, h2, h3, h4, h5, -⟩ := ZA.six
          obtain ⟨h6, h7, h8, -⟩ := ZF.three
          exact bodyPost_ret (v := .tuple #[.agg #[.int .i64 0, .bool false, .int .u64 0, .int .u64 0, .int .u64 0, .int .u64 0], .int .i64 0, .agg #[.bool true, .int .i64 4, .int .i64 6]]) (by simp [results, Tryz.results168, go_sem, h0, h1, h2, h3, h4, h5, h6, h7, h8]) rfl ⟨congrArg _ e.out, below_set3 (g := (w.heap.size + 1)) (below_set6 (g := w.heap.size) (B0.out.trans (k2.mono B0.out.size)) (by omega) _ _ _ _ _ _) (by omega) _ _ _⟩
      | some j =>
        rw [hfi] at qi HE
        have qi := h_ qi
        dsimp only at HE
        by_cases hf1 : z0 * 256 + z1 = 32768
        · rw [if_pos hf1] at HE
          have ez0 : z0 = 128 := by omega
          have ez1 : z1 = 0 := by omega
          subst ez0 ez1
          have qm := h_ (fun w => rfmask_any (j : Int) w)
          have qs := h_ (fun w => rfsize_any (j : Int) w)
          have hs16 := fsize_le (j : Int)
          have hws : IntKind.i64.wrap (2 * (fsize (j : Int) : Int)) = 2 * (fsize (j : Int) : Int) := by rw [IntKind.wrap_i64]; omega
          by_cases hm : z2 % 2 = 1
          · have hmd : decide (z2 % 2 = 1) = true := decide_eq_true hm
            rw [hmd] at HE
            cases hma : fmask (j : Int)
            · rw [hma] at qm HE
              have e : Hid (Value.tuple #[.agg #[.int .i64 0, .bool false, .int .u64 0, .int .u64 0, .int .u64 0, .int .u64 0], .int .i64 0, .agg #[.bool true, .int .i64 4, .int .i64 8]] = R) := h_ (by rw [← hR, HE.out]; rfl)
              clear hR HE HB HB4 hsl
              go_enter Tryz.func168, Tryz.ntmps168
              go_wp2_with (first | (go_at_call 180; refine (qi.out _).mono ?_; rintro e w1 ⟨rfl, k1⟩; have c0 := cell_later k1 D0.out; have c1 := cell_later k1 D1.out; have c2 := cell_later k1 D2.out; have c3 := cell_later k1 D3.out) | (go_at_call 134; refine (qs.out _).mono ?_; rintro e w9 ⟨rfl, rfl⟩) | (go_at_call 154; refine (qm.out _).mono ?_; rintro e w9 ⟨rfl, rfl⟩) | (go_at_call 179; refine (qr.out _ _).mono ?_; rintro e w2 ⟨rfl, b2⟩; have k2 := k1.trans (b2.mono k1.size); obtain ⟨s0, s1, s2, s3, s4, s5, s6, s7, s8, s9, s10, s11⟩ := (O0.out.later k2).six; obtain ⟨t0, t1, t2, t3, t4, t5⟩ := ((F0.out.later k2).far6 (h := w.heap.size) (by omega) (.int .i64 0) (.bool false) (.int .u64 0) (.int .u64 0) (.int .u64 0) (.int .u64 0)).three))
              have ZA := ((O0.out.later k2).set6 (.int .i64 0) (.bool false) (.int .u64 0) (.int .u64 0) (.int .u64 0) (.int .u64 0)).far3 (h := (w.heap.size + 1)) (by omega) (.bool true) (.int .i64 4) (.int .i64 8)
              have ZF := ((F0.out.later k2).far6 (h := w.heap.size) (by omega) (.int .i64 0) (.bool false) (.int .u64 0) (.int .u64 0) (.int .u64 0) (.int .u64 0)).set3 (.bool true) (.int .i64 4) (.int .i64 8)
              obtain ⟨h0, h1, h2, h3, h4, h5, -⟩ := ZA.six
              obtain ⟨h6, h7, h8, -⟩ := ZF.three
              exact bodyPost_ret (v := .tuple #[.agg #[.int .i64 0, .bool false, .int .u64 0, .int .u64 0, .int .u64 0, .int .u64 0], .int .i64 0, .agg #[.bool true, .int .i64 4, .int .i64 8]]) (by simp [results, Tryz.results168, go_sem, h0, h1, h2, h3, h4, h5, h6, h7, h8]) rfl ⟨congrArg _ e.out, below_set3 (g := (w.heap.size + 1)) (below_set6 (g := w.heap.size) (B0.out.trans (k2.mono B0.out.size)) (by omega) _ _ _ _ _ _) (by omega) _ _ _⟩
            · rw [hma] at qm HE
              rw [if_neg (by simp)] at HE
              by_cases hsf : z3 = foll (j : Int) true
              · rw [if_pos hsf] at HE
                have hsf' : z3 = 2 * (fsize (j : Int) : Int) := hsf
                exact rodec_1 z2 z3 r j w bb off cap ao' R hm i2 i3 hc1 hc2 hs hma hsf' hfi HE.out hR HB.out HB4.out hsl HiB.out
              · rw [if_neg hsf] at HE
                have hsn : ¬ z3 = 2 * (fsize (j : Int) : Int) := hsf
                have hsf' : (z3 == 2 * (fsize (j : Int) : Int)) = false := by simpa using hsn
                have e : Hid (Value.tuple #[.agg #[.int .i64 0, .bool false, .int .u64 0, .int .u64 0, .int .u64 0, .int .u64 0], .int .i64 0, .agg #[.bool true, .int .i64 4, .int .i64 1]] = R) := h_ (by rw [← hR, HE.out]; rfl)
                clear hR HE HB HB4 hsl
                generalize fsize (j : Int) = s at *
                go_enter Tryz.func168, Tryz.ntmps168
                go_wp2_with (first | (go_at_call 180; refine (qi.out _).mono ?_; rintro e w1 ⟨rfl, k1⟩; have c0 := cell_later k1 D0.out; have c1 := cell_later k1 D1.out; have c2 := cell_later k1 D2.out; have c3 := cell_later k1 D3.out) | (go_at_call 134; refine (qs.out _).mono ?_; rintro e w9 ⟨rfl, rfl⟩) | (go_at_call 154; refine (qm.out _).mono ?_; rintro e w9 ⟨rfl, rfl⟩) | (go_at_call 179; refine (qr.out _ _).mono ?_; rintro e w2 ⟨rfl, b2⟩; have k2 := k1.trans (b2.mono k1.size); obtain ⟨s0, s1, s2, s3, s4, s5, s6, s7, s8, s9, s10, s11⟩ := (O0.out.later k2).six; obtain ⟨t0, t1, t2, t3, t4, t5⟩ := ((F0.out.later k2).far6 (h := w.heap.size) (by omega) (.int .i64 0) (.bool false) (.int .u64 0) (.int .u64 0) (.int .u64 0) (.int .u64 0)).three))
                have ZA := ((O0.out.later k2).set6 (.int .i64 0) (.bool false) (.int .u64 0) (.int .u64 0) (.int .u64 0) (.int .u64 0)).far3 (h := (w.heap.size + 1)) (by omega) (.bool true) (.int .i64 4) (.int .i64 1)
                have ZF := ((F0.out.later k2).far6 (h := w.heap.size) (by omega) (.int .i64 0) (.bool false) (.int .u64 0) (.int .u64 0) (.int .u64 0) (.int .u64 0)).set3 (.bool true) (.int .i64 4) (.int .i64 1)
                obtain ⟨h0, h1, h2, h3, h4, h5, -⟩ := ZA.six
                obtain ⟨h6, h7, h8, -⟩ := ZF.three
                exact bodyPost_ret (v := .tuple #[.agg #[.int .i64 0, .bool false, .int .u64 0, .int .u64 0, .int .u64 0, .int .u64 0], .int .i64 0, .agg #[.bool true, .int .i64 4, .int .i64 1]]) (by simp [results, Tryz.results168, go_sem, h0, h1, h2, h3, h4, h5, h6, h7, h8]) rfl ⟨congrArg _ e.out, below_set3 (g := (w.heap.size + 1)) (below_set6 (g := w.heap.size) (B0.out.trans (k2.mono B0.out.size)) (by omega) _ _ _ _ _ _) (by omega) _ _ _⟩
          · have hmd : decide (z2 % 2 = 1) = false := decide_eq_false hm
            have hm' : (z2 % 2 == 1) = false := by simpa using hm
            rw [hmd] at HE
            rw [if_neg (by simp)] at HE
            by_cases hsf : z3 = foll (j : Int) false
            · rw [if_pos hsf] at HE
              have hsf' : z3 = (fsize (j : Int) : Int) := hsf
              exact rodec_0 z2 z3 r j w bb off cap ao' R hm i2 i3 hc1 hc2 hs hsf' hfi HE.out hR HB.out HB4.out hsl HiB.out
            · rw [if_neg hsf] at HE
              have hsn : ¬ z3 = (fsize (j : Int) : Int) := hsf
              have hsf' : (z3 == (fsize (j : Int) : Int)) = false := by simpa using hsn
              have e : Hid (Value.tuple #[.agg #[.int .i64 0, .bool false, .int .u64 0, .int .u64 0, .int .u64 0, .int .u64 0], .int .i64 0, .agg #[.bool true, .int .i64 4, .int .i64 1]] = R) := h_ (by rw [← hR, HE.out]; rfl)
              clear hR HE HB HB4 hsl
              generalize fsize (j : Int) = s at *
              go_enter Tryz.func168, Tryz.ntmps168
              go_wp2_with (first | (go_at_call 180; refine (qi.out _).mono ?_; rintro e w1 ⟨rfl, k1⟩; have c0 := cell_later k1 D0.out; have c1 := cell_later k1 D1.out; have c2 := cell_later k1 D2.out; have c3 := cell_later k1 D3.out) | (go_at_call 134; refine (qs.out _).mono ?_; rintro e w9 ⟨rfl, rfl⟩) | (go_at_call 179; refine (qr.out _ _).mono ?_; rintro e w2 ⟨rfl, b2⟩; have k2 := k1.trans (b2.mono k1.size); obtain ⟨s0, s1, s2, s3, s4, s5, s6, s7, s8, s9, s10, s11⟩ := (O0.out.later k2).six; obtain ⟨t0, t1, t2, t3, t4, t5⟩ := ((F0.out.later k2).far6 (h := w.heap.size) (by omega) (.int .i64 0) (.bool false) (.int .u64 0) (.int .u64 0) (.int .u64 0) (.int .u64 0)).three))
              have ZA := ((O0.out.later k2).set6 (.int .i64 0) (.bool false) (.int .u64 0) (.int .u64 0) (.int .u64 0) (.int .u64 0)).far3 (h := (w.heap.size + 1)) (by omega) (.bool true) (.int .i64 4) (.int .i64 1)
              have ZF := ((F0.out.later k2).far6 (h := w.heap.size) (by omega) (.int .i64 0) (.bool false) (.int .u64 0) (.int .u64 0) (.int .u64 0) (.int .u64 0)).set3 (.bool true) (.int .i64 4) (.int .i64 1)
              obtain ⟨h0, h1, h2, h3, h4, h5, -⟩ := ZA.six
              obtain ⟨h6, h7, h8, -⟩ := ZF.three
              exact bodyPost_ret (v := .tuple #[.agg #[.int .i64 0, .bool false, .int .u64 0, .int .u64 0, .int .u64 0, .int .u64 0], .int .i64 0, .agg #[.bool true, .int .i64 4, .int .i64 1]]) (by simp [results, Tryz.results168, go_sem, h0, h1, h2, h3, h4, h5, h6, h7, h8]) rfl ⟨congrArg _ e.out, below_set3 (g := (w.heap.size + 1)) (below_set6 (g := w.heap.size) (B0.out.trans (k2.mono B0.out.size)) (by omega) _ _ _ _ _ _) (by omega) _ _ _⟩
        · rw [if_neg hf1] at HE
          have e : Hid (Value.tuple #[.agg #[.int .i64 0, .bool false, .int .u64 0, .int .u64 0, .int .u64 0, .int .u64 0], .int .i64 0, .agg #[.bool true, .int .i64 4, .int .i64 6]] = R) := h_ (by rw [← hR, HE.out]; rfl)
          clear hR HE HB HB4 hsl
          have hor : z0 = 128 ∨ (¬ z0 = 128 ∧ (z0 == 128) = false) := by
            by_cases h : z0 = 128
            · exact .inl h
            · exact .inr ⟨h, by simpa using h⟩
          rcases hor with rfl | ⟨hz0n, hz0⟩
          · have hz1n : ¬ z1 = 0 := by omega
            have hz1 : (z1 == 0) = false := by simpa using hz1n
            go_enter Tryz.func168, Tryz.ntmps168
            go_wp2_with (first | (go_at_call 180; refine (qi.out _).mono ?_; rintro e w1 ⟨rfl, k1⟩; have c0 := cell_later k1 D0.out; have c1 := cell_later k1 D1.out; have c2 := cell_later k1 D2.out; have c3 := cell_later k1 D3.out) | (go_at_call 179; refine (qr.out _ _).mono ?_; rintro e w2 ⟨rfl, b2⟩; have k2 := k1.trans (b2.mono k1.size); obtain ⟨s0, s1, s2, s3, s4, s5, s6, s7, s8, s9, s10, s11⟩ := (O0.out.later k2).six; obtain ⟨t0, t1, t2, t3, t4, t5⟩ := ((F0.out.later k2).far6 (h := w.heap.size) (by omega) (.int .i64 0) (.bool false) (.int .u64 0) (.int .u64 0) (.int .u64 0) (.int .u64 0)).three))
            have ZA := ((O0.out.later k2).set6 (.int .i64 0) (.bool false) (.int .u64 0) (.int .u64 0) (.int .u64 0) (.int .u64 0)).far3 (h := (w.heap.size + 1)) (by omega) (.bool true) (.int .i64 4) (.int .i64 6)
            have ZF := ((F0.out.later k2).far6 (h := w.heap.size) (by omega) (.int .i64 0) (.bool false) (.int .u64 0) (.int .u64 0) (.int .u64 0) (.int .u64 0)).set3 (.bool true) (.int .i64 4) (.int .i64 6)
            obtain ⟨h0, h1, h2, h3, h4, h5, -⟩ := ZA.six
            obtain ⟨h6, h7, h8, -⟩ := ZF.three
            exact bodyPost_ret (v := .tuple #[.agg #[.int .i64 0, .bool false, .int .u64 0, .int .u64 0, .int .u64 0, .int .u64 0], .int .i64 0, .agg #[.bool true, .int .i64 4, .int .i64 6]]) (by simp [results, Tryz.results168, go_sem, h0, h1, h2, h3, h4, h5, h6, h7, h8]) rfl ⟨congrArg _ e.out, below_set3 (g := (w.heap.size + 1)) (below_set6 (g := w.heap.size) (B0.out.trans (k2.mono B0.out.size)) (by omega) _ _ _ _ _ _) (by omega) _ _ _⟩
          · go_enter Tryz.func168, Tryz.ntmps168
            go_wp2_with (first | (go_at_call 180; refine (qi.out _).mono ?_; rintro e w1 ⟨rfl, k1⟩; have c0 := cell_later k1 D0.out; have c1 := cell_later k1 D1.out; have c2 := cell_later k1 D2.out; have c3 := cell_later k1 D3.out) | (go_at_call 179; refine (qr.out _ _).mono ?_; rintro e w2 ⟨rfl, b2⟩; have k2 := k1.trans (b2.mono k1.size); obtain ⟨s0, s1, s2, s3, s4, s5, s6, s7, s8, s9, s10, s11⟩ := (O0.out.later k2).six; obtain ⟨t0, t1, t2, t3, t4, t5⟩ := ((F0.out.later k2).far6 (h := w.heap.size) (by omega) (.int .i64 0) (.bool false) (.int .u64 0) (.int .u64 0) (.int .u64 0) (.int .u64 0)).three))
            have ZA := ((O0.out.later k2).set6 (.int .i64 0) (.bool false) (.int .u64 0) (.int .u64 0) (.int .u64 0) (.int .u64 0)).far3 (h := (w.heap.size + 1)) (by omega) (.bool true) (.int .i64 4) (.int .i64 6)
            have ZF := ((F0.out.later k2).far6 (h := w.heap.size) (by omega) (.int .i64 0) (.bool false) (.int .u64 0) (.int .u64 0) (.int .u64 0) (.int .u64 0)).set3 (.bool true) (.int .i64 4) (.int .i64 6)
            obtain ⟨h0, h1, h2, h3, h4, h5, -⟩ := ZA.six
            obtain ⟨h6, h7, h8, -⟩ := ZF.three
            exact bodyPost_ret (v := .tuple #[.agg #[.int .i64 0, .bool false, .int .u64 0, .int .u64 0, .int .u64 0, .int .u64 0], .int .i64 0, .agg #[.bool true, .int .i64 4, .int .i64 6]]) (by simp [results, Tryz.results168, go_sem, h0, h1, h2, h3, h4, h5, h6, h7, h8]) rfl ⟨congrArg _ e.out, below_set3 (g := (w.heap.size + 1)) (below_set6 (g := w.heap.size) (B0.out.trans (k2.mono B0.out.size)) (by omega) _ _ _ _ _ _) (by omega) _ _ _⟩
end Go.Proofs.YthhijfphfcmniaaGreat
