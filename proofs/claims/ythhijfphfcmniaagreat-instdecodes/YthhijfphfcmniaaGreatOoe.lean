import Derived.Test.YthhijfphfcmniaaGreatOme
import Derived.Deep.RegionHeld3
import Derived.Deep.RegionWith
import Derived.Deep.MidRow
import Derived.Deep.Cut
set_option maxRecDepth 100000
set_option maxHeartbeats 8000000
set_option linter.unusedVariables false
set_option linter.unusedSimpArgs false
namespace Go.Proofs.YthhijfphfcmniaaGreat
open Go Go.RowKit
theorem odec_any (v : Value) (l : List Int) (w : World) (hB : Bytes w v l) :
    Calls Tryz.prog 166 #[v] w fun e w' => e = .returned (decV l) ∧ Below w.heap.size w w' := by
  have O0 := h_ ((AB.at0 w 59 [.int .i64 0, .bool false, .int .u64 0, .int .u64 0, .int .u64 0, .int .u64 0]).alloc (.cells #[.bool false, .int .i64 0, .int .i64 0] 44))
  have F0 := h_ (AB.at1 w (.cells #[.int .i64 0, .bool false, .int .u64 0, .int .u64 0, .int .u64 0, .int .u64 0] 59) 44 [.bool false, .int .i64 0, .int .i64 0])
  have B0 := h_ (below2 w (.cells #[.int .i64 0, .bool false, .int .u64 0, .int .u64 0, .int .u64 0, .int .u64 0] 59) (.cells #[.bool false, .int .i64 0, .int .i64 0] 44))
  have qh : Hid (Calls Tryz.prog 177 #[v] ((w.alloc (.cells #[.int .i64 0, .bool false, .int .u64 0, .int .u64 0, .int .u64 0, .int .u64 0] 59)).alloc (.cells #[.bool false, .int .i64 0, .int .i64 0] 44)) fun e w' => e = .returned (headV l) ∧ Below ((w.alloc (.cells #[.int .i64 0, .bool false, .int .u64 0, .int .u64 0, .int .u64 0, .int .u64 0] 59)).alloc (.cells #[.bool false, .int .i64 0, .int .i64 0] 44)).heap.size ((w.alloc (.cells #[.int .i64 0, .bool false, .int .u64 0, .int .u64 0, .int .u64 0, .int .u64 0] 59)).alloc (.cells #[.bool false, .int .i64 0, .int .i64 0] 44)) w') := h_ (readHead_any v l ((w.alloc (.cells #[.int .i64 0, .bool false, .int .u64 0, .int .u64 0, .int .u64 0, .int .u64 0] 59)).alloc (.cells #[.bool false, .int .i64 0, .int .i64 0] 44)) (hB.later B0.out))
  unfold headV at qh
  obtain ⟨R, hR⟩ : ∃ R, decV l = R := ⟨_, rfl⟩
  rw [hR]
  unfold decV at hR
  have hn0 : w.heap.size + 1 < ((w.alloc (.cells #[.int .i64 0, .bool false, .int .u64 0, .int .u64 0, .int .u64 0, .int .u64 0] 59)).alloc (.cells #[.bool false, .int .i64 0, .int .i64 0] 44)).heap.size := by simp
  by_cases hk : (headR l).1 = 0
  · obtain ⟨f, m, hfm⟩ : ∃ f m, headR l = (0, f, m) := ⟨(headR l).2.1, (headR l).2.2, by rw [← hk]⟩
    rw [if_pos hk] at hR
    rw [hfm] at qh hR
    dsimp only at qh hR
    obtain ⟨hl4, hfs⟩ := headR_len hfm
    have hiB : isB l := by obtain ⟨_, _, _, _, _, h, _⟩ := hB; exact h
    obtain ⟨ha, hb, hc, hd⟩ := bodyA_lt (l.drop 4) f m (isB_drop hiB 4)
    have hfl : 0 ≤ foll f m ∧ foll f m ≤ 32 := by
      have := fsize_le f
      unfold foll
      cases m <;> dsimp only <;> omega
    obtain ⟨ao, cap, rfl, hc1, hc2, hiB2, hnone, hcell⟩ := hB
    have hB : Bytes w (.slice ao l.length cap) l := ⟨ao, cap, rfl, hc1, hc2, hiB2, hnone, hcell⟩
    clear hnone hcell hiB2
    obtain ⟨ao', -, hsl, hB2⟩ := bytes_slice hB 4 hl4
    have hsl : ∀ wx, (Instr.slice 25 (.slice ao l.length cap) (some (.int .i64 4)) none none).run Tryz.prog wx = .ok (.slice ao' (l.length - 4) (cap - 4)) wx := hsl
    have qb : Hid (∀ W, Below w.heap.size w W → Calls Tryz.prog 178 #[ov f m 0 0 0 0, .slice ao' (l.length - 4) (cap - 4)] W fun e W' => e = .returned (ov f m (bodyA (l.drop 4) f m).1 (bodyA (l.drop 4) f m).2.1 (bodyA (l.drop 4) f m).2.2.1 (bodyA (l.drop 4) f m).2.2.2) ∧ Below W.heap.size W W') := h_ (fun W hW => by
      cases m
      · exact readBody_0 f _ _ W (hB2.later hW) hfs
      · exact readBody_1 f _ _ W (hB2.later hW) hfs)
    have qf : Hid (∀ w, Calls Tryz.prog 164 #[ov f m (bodyA (l.drop 4) f m).1 (bodyA (l.drop 4) f m).2.1 (bodyA (l.drop 4) f m).2.2.1 (bodyA (l.drop 4) f m).2.2.2] w fun e w' => e = .returned (.int .i64 (foll f m)) ∧ Below w.heap.size w w') := h_ (fun w => follow_any f m _ _ _ _ w)
    have qc := fun w => check_any f m (bodyA (l.drop 4) f m).1 (bodyA (l.drop 4) f m).2.1 (bodyA (l.drop 4) f m).2.2.1 (bodyA (l.drop 4) f m).2.2.2 w ha hb hc hd
    clear hB hB2 hiB ha hb hc hd hfm hfs hk
    generalize chk f m (bodyA (l.drop 4) f m).1 (bodyA (l.drop 4) f m).2.1 (bodyA (l.drop 4) f m).2.2.1 (bodyA (l.drop 4) f m).2.2.2 = k at *
    generalize (bodyA (l.drop 4) f m).1 = a at *
    generalize (bodyA (l.drop 4) f m).2.1 = b at *
    generalize (bodyA (l.drop 4) f m).2.2.1 = c at *
    generalize (bodyA (l.drop 4) f m).2.2.2 = d at *
    generalize foll f m = fl at *
    generalize l.length = n at *
    have hw4 : IntKind.i64.wrap (4 + fl) = 4 + fl := by rw [IntKind.wrap_i64]; omega
    unfold fcode at qh qc
    rw [if_pos rfl] at qh
    unfold ov fv at *
    have qh := h_ qh
    go_enter Tryz.func166, Tryz.ntmps166
    go_upto_region 4 with (go_at_call 177; refine (qh.out.out).mono ?_; rintro e w1 ⟨rfl, k1⟩)
    have j1 : Below w1.heap.size w1 ((w1.alloc (.cells #[.int .i64 f, .bool m, .int .u64 (0 : Int), .int .u64 (0 : Int), .int .u64 (0 : Int), .int .u64 (0 : Int)] 59)).alloc (.cells #[.bool false, .int .i64 0, .int .i64 0] 44)) := below2 w1 _ _
    have NO := h_ ((AB.at0 w1 59 [.int .i64 f, .bool m, .int .u64 (0 : Int), .int .u64 (0 : Int), .int .u64 (0 : Int), .int .u64 (0 : Int)]).alloc (.cells #[.bool false, .int .i64 0, .int .i64 0] 44))
    have NF := h_ (AB.at1 w1 (.cells #[.int .i64 f, .bool m, .int .u64 (0 : Int), .int .u64 (0 : Int), .int .u64 (0 : Int), .int .u64 (0 : Int)] 59) 44 [.bool false, .int .i64 0, .int .i64 0])
    have K1 := h_ (k1.trans (j1.mono k1.size))
    have hg : w.heap.size + 1 < w1.heap.size := Nat.lt_of_lt_of_le hn0 k1.size
    clear j1 k1
    generalize ((w1.alloc (.cells #[.int .i64 f, .bool m, .int .u64 (0 : Int), .int .u64 (0 : Int), .int .u64 (0 : Int), .int .u64 (0 : Int)] 59)).alloc (.cells #[.bool false, .int .i64 0, .int .i64 0] 44)) = V at *
    generalize w1.heap.size = g at *
    have BV := B0.out.trans (K1.out.mono B0.out.size)
    obtain ⟨a0, a1, a2, a3, a4, a5, -⟩ := NO.out.six
    refine wp_region_held_drew (S := (fun w' => Below w.heap.size w w')) (by kernel_rfl) (BV.drew) (fun hHeld => ?_)
    refine tR 1 ?_ (some 17) rfl (by kernel_rfl) rfl (by rfl) ?_ (fun _ _ _ h => h) (by assumption) ?_
    rotate_left
    · intro w hSw; (try dsimp only at hSw); go_simp; (try with_reducible rfl)
    simp only [Act.put, sIb, sCz, sCs]
    refine tR 2 ?_ (some 18) rfl (by kernel_rfl) rfl (by rfl) ?_ (fun _ _ _ h => h) (by assumption) ?_
    rotate_left
    · intro w hSw; (try dsimp only at hSw); go_simp; (try with_reducible rfl)
    simp only [Act.put, sIb, sCz, sCs]
    refine wpAnyH_ready (rs := [0]) (by kernel_rfl) (by simp) ?_
    refine AllReadyH.cons rfl (fun K hK => ?_) (AllReadyH.nil)
    go_simp
    refine hK.out _ _ (hHeld) (fun hHeld => ?_)
    clear hK K
    try simp only [Act.put, sIb, sCz, sCs]
    refine wpAnyH_ready (rs := [3]) (by kernel_rfl) (by simp) ?_
    refine AllReadyH.cons rfl (fun K hK => ?_) (AllReadyH.nil)
    go_simp
    refine (qb.out _ hHeld).mono ?_
    rintro e w2 ⟨rfl, b2⟩
    have k2 : Below V.heap.size V w2 := (Below.refl _ _).drew.trans b2
    obtain ⟨d0, d1, d2, d3, d4, d5, d6, d7, d8, d9, d10, d11⟩ := (NO.out.later k2).six
    refine hK.out _ _ (hHeld.trans (b2.mono hHeld.size)) (fun hHeld => ?_)
    clear hK K
    try simp only [Act.put, sIb, sCz, sCs]
    refine wpAnyH_ready (rs := [4]) (by kernel_rfl) (by simp) ?_
    refine AllReadyH.cons rfl (fun K hK => ?_) (AllReadyH.nil)
    go_simp
    refine hK.out _ _ (below_set6 hHeld (by omega) _ _ _ _ _ _) (fun hHeld => ?_)
    clear hK K
    try simp only [Act.put, sIb, sCz, sCs]
    refine wpAnyH_done (by kernel_rfl) ?_ _
    have NO2 := h_ ((NO.out.later k2).set6 (.int .i64 f) (.bool m) (.int .u64 (a : Int)) (.int .u64 (b : Int)) (.int .u64 (c : Int)) (.int .u64 (d : Int)))
    have NF2 := h_ ((NF.out.later k2).far6 (h := g) (by omega) (.int .i64 f) (.bool m) (.int .u64 (a : Int)) (.int .u64 (b : Int)) (.int .u64 (c : Int)) (.int .u64 (d : Int)))
    have O2 := h_ ((O0.out.later (K1.out.trans (k2.mono K1.out.size))).far6 (h := g) (by omega) (.int .i64 f) (.bool m) (.int .u64 (a : Int)) (.int .u64 (b : Int)) (.int .u64 (c : Int)) (.int .u64 (d : Int)))
    have F2 := h_ ((F0.out.later (K1.out.trans (k2.mono K1.out.size))).far6 (h := g) (by omega) (.int .i64 f) (.bool m) (.int .u64 (a : Int)) (.int .u64 (b : Int)) (.int .u64 (c : Int)) (.int .u64 (d : Int)))
    have B2 := h_ hHeld
    clear hHeld a0 a1 a2 a3 a4 a5 d0 d1 d2 d3 d4 d5 d6 d7 d8 d9 d10 d11 K1 NO NF O0 F0 B0 k2 b2 BV qb qh
    generalize ((((((w2.setCell ⟨g, 0, none⟩ (.int .i64 f)).setCell ⟨g, 1, none⟩ (.bool m)).setCell ⟨g, 2, none⟩ (.int .u64 (a : Int))).setCell ⟨g, 3, none⟩ (.int .u64 (b : Int))).setCell ⟨g, 4, none⟩ (.int .u64 (c : Int))).setCell ⟨g, 5, none⟩ (.int .u64 (d : Int))) = U at *
    obtain ⟨a0, a1, a2, a3, a4, a5, -⟩ := NO2.out.six
    have hgf : g + 1 ≠ g := by omega
    by_cases hc0 : k = 0
    · rw [if_pos hc0] at qc hR
      have e : Hid (Value.tuple #[.agg #[.int .i64 f, .bool m, .int .u64 (a : Int), .int .u64 (b : Int), .int .u64 (c : Int), .int .u64 (d : Int)], .int .i64 (4 + fl), .agg #[.bool false, .int .i64 0, .int .i64 0]] = R) := h_ hR
      have qc := h_ qc
      go_upto_region 8 with (go_at_call 161; refine (qc.out _).mono ?_; rintro e w3 ⟨rfl, b3⟩; obtain ⟨d0, d1, d2, d3, d4, d5⟩ := (NF2.out.later b3).three; have NF3 := h_ ((NF2.out.later b3).set3 (.bool false) (.int .i64 0) (.int .i64 0)); obtain ⟨d6, d7, d8, -⟩ := NF3.out.three)
      have O0 := h_ ((O2.out.later b3).far3 (h := g + 1) (by omega) (.bool false) (.int .i64 0) (.int .i64 0))
      have F0 := h_ ((F2.out.later b3).far3 (h := g + 1) (by omega) (.bool false) (.int .i64 0) (.int .i64 0))
      have NO3 := h_ ((NO2.out.later b3).far3 (h := g + 1) (by omega) (.bool false) (.int .i64 0) (.int .i64 0))
      have B3 := below_set3 (g := g + 1) (B2.out.trans (b3.mono B2.out.size)) (by omega) (.bool false) (.int .i64 0) (.int .i64 0)
      clear d0 d1 d2 d3 d4 d5 d6 d7 d8 a0 a1 a2 a3 a4 a5 NF3 NF2 NO2 O2 F2 B2
      try simp only [Act.put]
      generalize (((w3.setCell ⟨(g + 1), 0, none⟩ (.bool false)).setCell ⟨(g + 1), 1, none⟩ (.int .i64 0)).setCell ⟨(g + 1), 2, none⟩ (.int .i64 0)) = X at *
      obtain ⟨a0, a1, a2, a3, a4, a5, -⟩ := NO3.out.six
      refine wp_region_held_drew (S := (fun w' => w'.cell? ⟨g, 0, none⟩ = some (.int .i64 f) ∧ w'.cell? ⟨g, 1, none⟩ = some (.bool m) ∧ w'.cell? ⟨g, 2, none⟩ = some (.int .u64 (a : Int)) ∧ w'.cell? ⟨g, 3, none⟩ = some (.int .u64 (b : Int)) ∧ w'.cell? ⟨g, 4, none⟩ = some (.int .u64 (c : Int)) ∧ w'.cell? ⟨g, 5, none⟩ = some (.int .u64 (d : Int)) ∧ Below w.heap.size w w')) (by kernel_rfl) (⟨a0, a1, a2, a3, a4, a5, B3.drew⟩) (fun hHeld => ?_)
      refine tR 0 ?_ (some 26) rfl (by kernel_rfl) rfl (by rfl) ?_ (fun _ _ _ h => h) (by assumption) ?_
      rotate_left
      · intro w hSw; (try dsimp only at hSw); go_simp; (try with_reducible rfl)
      simp only [Act.put, sIb, sCz, sCs]
      refine tR 1 ?_ (some 27) rfl (by kernel_rfl) rfl (by rfl) ?_ (fun _ _ _ h => h) (by assumption) ?_
      rotate_left
      · intro w hSw; (try dsimp only at hSw); go_simp; (try with_reducible rfl)
      simp only [Act.put, sIb, sCz, sCs]
      refine tR 4 ?_ (some 30) rfl (by kernel_rfl) rfl (by rfl) ?_ (fun _ _ _ h => h) (by assumption) ?_
      rotate_left
      · intro w hSw; (try dsimp only at hSw); go_simp; (try with_reducible rfl)
      simp only [Act.put, sIb, sCz, sCs]
      refine wpAnyH_ready (rs := [2]) (by kernel_rfl) (by simp) ?_
      refine AllReadyH.cons rfl (fun K hK => ?_) (AllReadyH.nil)
      go_simp
      refine (qf.out _).mono ?_
      rintro e w4 ⟨rfl, b4⟩
      have k4 : Below X.heap.size X w4 := (Below.refl _ _).drew.trans b4
      have OD : AB w4 w.heap.size 59 [.int .i64 0, .bool false, .int .u64 0, .int .u64 0, .int .u64 0, .int .u64 0] := O0.out.later k4
      have FD : AB w4 (w.heap.size + 1) 44 [.bool false, .int .i64 0, .int .i64 0] := F0.out.later k4
      obtain ⟨s0, s1, s2, s3, s4, s5, s6, s7, s8, s9, s10, s11⟩ := OD.six
      obtain ⟨t0, t1, t2, t3, t4, t5⟩ := (FD.far6 (h := w.heap.size) (by omega) (.int .i64 f) (.bool m) (.int .u64 (a : Int)) (.int .u64 (b : Int)) (.int .u64 (c : Int)) (.int .u64 (d : Int))).three
      obtain ⟨h0, h1, h2, h3, h4, h5, -⟩ := ((OD.set6 (.int .i64 f) (.bool m) (.int .u64 (a : Int)) (.int .u64 (b : Int)) (.int .u64 (c : Int)) (.int .u64 (d : Int))).far3 (h := (w.heap.size + 1)) (by omega) (.bool false) (.int .i64 0) (.int .i64 0)).six
      obtain ⟨h6, h7, h8, -⟩ := ((FD.far6 (h := w.heap.size) (by omega) (.int .i64 f) (.bool m) (.int .u64 (a : Int)) (.int .u64 (b : Int)) (.int .u64 (c : Int)) (.int .u64 (d : Int))).set3 (.bool false) (.int .i64 0) (.int .i64 0)).three
      clear OD FD
      refine hK.out _ _ (kN6 b4 hHeld) (fun hHeld => ?_)
      clear hK K
      try simp only [Act.put, sIb, sCz, sCs]
      refine tR 3 ?_ (some 29) rfl (by kernel_rfl) rfl (by rfl) ?_ (fun _ _ _ h => h) (by assumption) ?_
      rotate_left
      · intro w hSw; (try dsimp only at hSw); go_simp; (try with_reducible rfl)
      simp only [Act.put, sIb, sCz, sCs]
      refine wpAnyH_ready (rs := [5]) (by kernel_rfl) (by simp) ?_
      refine AllReadyH.cons rfl (fun K hK => ?_) (AllReadyH.nil)
      go_simp
      refine hK.out _ _ (kW6_6 hHeld (by omega) (by dsimp only; omega) (by dsimp only; omega) (by dsimp only; omega) (by dsimp only; omega) (by dsimp only; omega) (by dsimp only; omega)) (fun hHeld => ?_)
      clear hK K
      try simp only [Act.put, sIb, sCz, sCs]
      refine tR 6 ?_ (some 3) rfl (by kernel_rfl) rfl (by rfl) ?_ (fun _ _ _ h => h) (by assumption) ?_
      rotate_left
      · intro w hSw; (try dsimp only at hSw); go_simp; (try with_reducible rfl)
      simp only [Act.put, sIb, sCz, sCs]
      refine wpAnyH_ready (rs := [7]) (by kernel_rfl) (by simp) ?_
      refine AllReadyH.cons rfl (fun K hK => ?_) (AllReadyH.nil)
      go_simp
      refine hK.out _ _ (kW3_6 hHeld (by omega) (by dsimp only; omega) (by dsimp only; omega) (by dsimp only; omega) (by dsimp only; omega) (by dsimp only; omega) (by dsimp only; omega)) (fun hHeld => ?_)
      clear hK K
      try simp only [Act.put, sIb, sCz, sCs]
      refine wpAnyH_done (by kernel_rfl) ?_ _
      go_wp2_with fail
      exact bodyPost_ret (v := .tuple #[.agg #[.int .i64 f, .bool m, .int .u64 (a : Int), .int .u64 (b : Int), .int .u64 (c : Int), .int .u64 (d : Int)], .int .i64 (4 + fl), .agg #[.bool false, .int .i64 0, .int .i64 0]]) (by simp [results, Tryz.results166, go_sem, h0, h1, h2, h3, h4, h5, h6, h7, h8]) rfl ⟨congrArg _ e.out, hHeld.2.2.2.2.2.2⟩
    · rw [if_neg hc0] at qc hR
      have e : Hid (Value.tuple #[.agg #[.int .i64 0, .bool false, .int .u64 0, .int .u64 0, .int .u64 0, .int .u64 0], .int .i64 0, .agg #[.bool true, .int .i64 4, .int .i64 k]] = R) := h_ hR
      have qc := h_ qc
      go_upto_region 7 with (go_at_call 161; refine (qc.out _).mono ?_; rintro e w3 ⟨rfl, b3⟩; obtain ⟨d0, d1, d2, d3, d4, d5⟩ := (NF2.out.later b3).three; have NF3 := h_ ((NF2.out.later b3).set3 (.bool true) (.int .i64 4) (.int .i64 k)); obtain ⟨d6, d7, d8, -⟩ := NF3.out.three)
      have O0 := h_ ((O2.out.later b3).far3 (h := g + 1) (by omega) (.bool true) (.int .i64 4) (.int .i64 k))
      have F0 := h_ ((F2.out.later b3).far3 (h := g + 1) (by omega) (.bool true) (.int .i64 4) (.int .i64 k))
      have B3 := below_set3 (g := g + 1) (B2.out.trans (b3.mono B2.out.size)) (by omega) (.bool true) (.int .i64 4) (.int .i64 k)
      clear d0 d1 d2 d3 d4 d5 d6 d7 d8 a0 a1 a2 a3 a4 a5 NF2 NO2 O2 F2 B2
      try simp only [Act.put]
      generalize (((w3.setCell ⟨(g + 1), 0, none⟩ (.bool true)).setCell ⟨(g + 1), 1, none⟩ (.int .i64 4)).setCell ⟨(g + 1), 2, none⟩ (.int .i64 k)) = X at *
      obtain ⟨d6, d7, d8, -⟩ := NF3.out.three
      have OD : AB X.drew w.heap.size 59 [.int .i64 0, .bool false, .int .u64 0, .int .u64 0, .int .u64 0, .int .u64 0] := O0.out
      have FD : AB X.drew (w.heap.size + 1) 44 [.bool false, .int .i64 0, .int .i64 0] := F0.out
      obtain ⟨s0, s1, s2, s3, s4, s5, s6, s7, s8, s9, s10, s11⟩ := OD.six
      obtain ⟨t0, t1, t2, t3, t4, t5⟩ := (FD.far6 (h := w.heap.size) (by omega) (.int .i64 0) (.bool false) (.int .u64 0) (.int .u64 0) (.int .u64 0) (.int .u64 0)).three
      obtain ⟨h0, h1, h2, h3, h4, h5, -⟩ := ((OD.set6 (.int .i64 0) (.bool false) (.int .u64 0) (.int .u64 0) (.int .u64 0) (.int .u64 0)).far3 (h := (w.heap.size + 1)) (by omega) (.bool true) (.int .i64 4) (.int .i64 k)).six
      obtain ⟨h6, h7, h8, -⟩ := ((FD.far6 (h := w.heap.size) (by omega) (.int .i64 0) (.bool false) (.int .u64 0) (.int .u64 0) (.int .u64 0) (.int .u64 0)).set3 (.bool true) (.int .i64 4) (.int .i64 k)).three
      clear OD FD
      refine wp_region_held_drew (S := (fun w' => w'.cell? ⟨g + 1, 0, none⟩ = some (.bool true) ∧ w'.cell? ⟨g + 1, 1, none⟩ = some (.int .i64 4) ∧ w'.cell? ⟨g + 1, 2, none⟩ = some (.int .i64 k) ∧ Below w.heap.size w w')) (by kernel_rfl) (⟨d6, d7, d8, B3.drew⟩) (fun hHeld => ?_)
      generalize X.drew = D at *
      refine tR 0 ?_ (some 24) rfl (by kernel_rfl) rfl (by rfl) ?_ (fun _ _ _ h => h) (by assumption) ?_
      rotate_left
      · intro w hSw; (try dsimp only at hSw); go_simp; (try with_reducible rfl)
      simp only [Act.put, sIb, sCz, sCs]
      refine tR 1 ?_ (some 25) rfl (by kernel_rfl) rfl (by rfl) ?_ (fun _ _ _ h => h) (by assumption) ?_
      rotate_left
      · intro w hSw; (try dsimp only at hSw); go_simp; (try with_reducible rfl)
      simp only [Act.put, sIb, sCz, sCs]
      refine wpAnyH_ready (rs := [2]) (by kernel_rfl) (by simp) ?_
      refine AllReadyH.cons rfl (fun K hK => ?_) (AllReadyH.nil)
      go_simp
      refine hK.out _ _ (kW6_3 hHeld (by omega) (by dsimp only; omega) (by dsimp only; omega) (by dsimp only; omega)) (fun hHeld => ?_)
      clear hK K
      try simp only [Act.put, sIb, sCz, sCs]
      refine tR 3 ?_ (some 3) rfl (by kernel_rfl) rfl (by rfl) ?_ (fun _ _ _ h => h) (by assumption) ?_
      rotate_left
      · intro w hSw; (try dsimp only at hSw); go_simp; (try with_reducible rfl)
      simp only [Act.put, sIb, sCz, sCs]
      refine wpAnyH_ready (rs := [4]) (by kernel_rfl) (by simp) ?_
      refine AllReadyH.cons rfl (fun K hK => ?_) (AllReadyH.nil)
      go_simp
      refine hK.out _ _ (kW3_3 hHeld (by omega) (by dsimp only; omega) (by dsimp only; omega) (by dsimp only; omega)) (fun hHeld => ?_)
      clear hK K
      try simp only [Act.put, sIb, sCz, sCs]
      refine wpAnyH_done (by kernel_rfl) ?_ _
      go_wp2_with fail
      exact bodyPost_ret (v := .tuple #[.agg #[.int .i64 0, .bool false, .int .u64 0, .int .u64 0, .int .u64 0, .int .u64 0], .int .i64 0, .agg #[.bool true, .int .i64 4, .int .i64 k]]) (by simp [results, Tryz.results166, go_sem, h0, h1, h2, h3, h4, h5, h6, h7, h8]) rfl ⟨congrArg _ e.out, hHeld.2.2.2⟩
  · rw [if_neg hk] at hR
    have hz := headR_zero l hk
    rw [hz] at qh
    unfold fcode at qh
    rw [if_neg hk] at qh
    generalize (headR l).1 = k at *
    unfold ov fv at *
    have e : Hid (Value.tuple #[.agg #[.int .i64 0, .bool false, .int .u64 0, .int .u64 0, .int .u64 0, .int .u64 0], .int .i64 0, .agg #[.bool true, .int .i64 4, .int .i64 k]] = R) := h_ hR
    have qh := h_ qh
    clear hB hz hR
    go_enter Tryz.func166, Tryz.ntmps166
    go_upto_region 3 with (go_at_call 177; refine (qh.out.out).mono ?_; rintro e w1 ⟨rfl, k1⟩)
    have j1 : Below w1.heap.size w1 ((w1.alloc (.cells #[.int .i64 0, .bool false, .int .u64 0, .int .u64 0, .int .u64 0, .int .u64 0] 59)).alloc (.cells #[.bool true, .int .i64 4, .int .i64 k] 44)) := below2 w1 _ _
    have NF := h_ (AB.at1 w1 (.cells #[.int .i64 0, .bool false, .int .u64 0, .int .u64 0, .int .u64 0, .int .u64 0] 59) 44 [.bool true, .int .i64 4, .int .i64 k])
    have K1 := k1.trans (j1.mono k1.size)
    have B3 := B0.out.trans (K1.mono B0.out.size)
    have hg : w.heap.size + 1 < w1.heap.size := Nat.lt_of_lt_of_le hn0 k1.size
    have OO := h_ (O0.out.later K1)
    have FF := h_ (F0.out.later K1)
    clear j1 k1 K1 O0 F0 B0 qh
    generalize ((w1.alloc (.cells #[.int .i64 0, .bool false, .int .u64 0, .int .u64 0, .int .u64 0, .int .u64 0] 59)).alloc (.cells #[.bool true, .int .i64 4, .int .i64 k] 44)) = X at *
    generalize w1.heap.size = g at *
    obtain ⟨d6, d7, d8, -⟩ := NF.out.three
    have OD : AB X.drew w.heap.size 59 [.int .i64 0, .bool false, .int .u64 0, .int .u64 0, .int .u64 0, .int .u64 0] := OO.out
    have FD : AB X.drew (w.heap.size + 1) 44 [.bool false, .int .i64 0, .int .i64 0] := FF.out
    obtain ⟨s0, s1, s2, s3, s4, s5, s6, s7, s8, s9, s10, s11⟩ := OD.six
    obtain ⟨t0, t1, t2, t3, t4, t5⟩ := (FD.far6 (h := w.heap.size) (by omega) (.int .i64 0) (.bool false) (.int .u64 0) (.int .u64 0) (.int .u64 0) (.int .u64 0)).three
    obtain ⟨h0, h1, h2, h3, h4, h5, -⟩ := ((OD.set6 (.int .i64 0) (.bool false) (.int .u64 0) (.int .u64 0) (.int .u64 0) (.int .u64 0)).far3 (h := (w.heap.size + 1)) (by omega) (.bool true) (.int .i64 4) (.int .i64 k)).six
    obtain ⟨h6, h7, h8, -⟩ := ((FD.far6 (h := w.heap.size) (by omega) (.int .i64 0) (.bool false) (.int .u64 0) (.int .u64 0) (.int .u64 0) (.int .u64 0)).set3 (.bool true) (.int .i64 4) (.int .i64 k)).three
    clear OD FD
    refine wp_region_held_drew (S := (fun w' => w'.cell? ⟨g + 1, 0, none⟩ = some (.bool true) ∧ w'.cell? ⟨g + 1, 1, none⟩ = some (.int .i64 4) ∧ w'.cell? ⟨g + 1, 2, none⟩ = some (.int .i64 k) ∧ Below w.heap.size w w')) (by kernel_rfl) (⟨d6, d7, d8, B3.drew⟩) (fun hHeld => ?_)
    generalize X.drew = D at *
    refine tR 0 ?_ (some 14) rfl (by kernel_rfl) rfl (by rfl) ?_ (fun _ _ _ h => h) (by assumption) ?_
    rotate_left
    · intro w hSw; (try dsimp only at hSw); go_simp; (try with_reducible rfl)
    simp only [Act.put, sIb, sCz, sCs]
    refine tR 1 ?_ (some 15) rfl (by kernel_rfl) rfl (by rfl) ?_ (fun _ _ _ h => h) (by assumption) ?_
    rotate_left
    · intro w hSw; (try dsimp only at hSw); go_simp; (try with_reducible rfl)
    simp only [Act.put, sIb, sCz, sCs]
    refine wpAnyH_ready (rs := [2]) (by kernel_rfl) (by simp) ?_
    refine AllReadyH.cons rfl (fun K hK => ?_) (AllReadyH.nil)
    go_simp
    refine hK.out _ _ (kW6_3 hHeld (by omega) (by dsimp only; omega) (by dsimp only; omega) (by dsimp only; omega)) (fun hHeld => ?_)
    clear hK K
    try simp only [Act.put, sIb, sCz, sCs]
    refine tR 3 ?_ (some 3) rfl (by kernel_rfl) rfl (by rfl) ?_ (fun _ _ _ h => h) (by assumption) ?_
    rotate_left
    · intro w hSw; (try dsimp only at hSw); go_simp; (try with_reducible rfl)
    simp only [Act.put, sIb, sCz, sCs]
    refine wpAnyH_ready (rs := [4]) (by kernel_rfl) (by simp) ?_
    refine AllReadyH.cons rfl (fun K hK => ?_) (AllReadyH.nil)
    go_simp
    refine hK.out _ _ (kW3_3 hHeld (by omega) (by dsimp only; omega) (by dsimp only; omega) (by dsimp only; omega)) (fun hHeld => ?_)
    clear hK K
    try simp only [Act.put, sIb, sCz, sCs]
    refine wpAnyH_done (by kernel_rfl) ?_ _
    go_wp2_with fail
    exact bodyPost_ret (v := .tuple #[.agg #[.int .i64 0, .bool false, .int .u64 0, .int .u64 0, .int .u64 0, .int .u64 0], .int .i64 0, .agg #[.bool true, .int .i64 4, .int .i64 k]]) (by simp [results, Tryz.results166, go_sem, h0, h1, h2, h3, h4, h5, h6, h7, h8]) rfl ⟨congrArg _ e.out, hHeld.2.2.2⟩
end Go.Proofs.YthhijfphfcmniaaGreat
