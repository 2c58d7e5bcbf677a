import Derived.Test.YthhijfphfcmniaaGreatKVd
import Derived.Deep.RegionHeld3
import Derived.Deep.RegionWith
import Derived.Deep.MidRow
import Derived.Deep.Cut
namespace Go.Proofs.YthhijfphfcmniaaGreat
open Go Go.RowKit
set_option linter.unusedVariables false
set_option linter.unusedSimpArgs false

set_option maxRecDepth 100000 in
set_option maxHeartbeats 8000000 in
theorem rbd_bad (v : Value) (l0 : List Int) (c d : Int) (w : World) (hB : Bytes w v l0) (h6 : l0.length ≤ 60000) (hP : BBad RAns l0 c d) :
    Calls Tryz.prog 71 #[v] w fun e w' => (e = .returned (.tuple #[.slice none 0 0, .agg #[.bool true, .int .i64 c, .int .i64 d]])) ∧ Below w.heap.size w w' := by
  have F0 := hide_ ((AB.at0 w 44 [.bool false, .int .i64 0, .int .i64 0]).alloc (.cells #[] 87))
  have B0 := hide_ (below2 w (.cells #[.bool false, .int .i64 0, .int .i64 0] 44) (.cells #[] 87))
  have OE : Hid (BRow ((w.alloc (.cells #[.bool false, .int .i64 0, .int .i64 0] 44)).alloc (.cells #[] 87)) (w.heap.size + 1) (.slice (some ⟨w.heap.size + 1, 0, none⟩) 0 0) []) := hide_ ⟨⟨rfl, .inr ⟨w.heap.size + 1, 0, #[], rfl, Nat.le_refl _, by simpa using heap_alloc_last (w.alloc (.cells #[.bool false, .int .i64 0, .int .i64 0] 44)) (.cells #[] 87), Nat.le_refl _, by decide, rfl, rfl⟩⟩, fun p hp => by cases hp⟩
  have HSZ : Hid ((w.heap.size + 1) ≤ ((w.alloc (.cells #[.bool false, .int .i64 0, .int .i64 0] 44)).alloc (.cells #[] 87)).heap.size) := hide_ (by simp)
  obtain ⟨ao0, cap0, rfl, hbr⟩ := hB
  have hB : Bytes w (.slice ao0 l0.length cap0) l0 := ⟨ao0, cap0, rfl, hbr⟩
  have HB0 := hide_ hB
  have g6 : ¬ (60000 : Int) < (l0.length : Int) := by omega
  clear hB hbr
  obtain ⟨i0, hi0, hz0, hz1, hz2⟩ := info_parts infoBu
  have HI : Hid (Tryz.prog.info? 87 = some i0 ∧ i0.zero = some (.agg #[.int .i64 0, .int .i64 0, .int .i64 0, .slice none 0 0]) ∧ i0.size = 4 ∧ i0.bytes = 48) := ⟨hi0, hz0, hz1, hz2⟩
  clear hi0 hz0 hz1 hz2
  have HP := hide_ hP
  clear hP
  go_enter Tryz.func71, Tryz.ntmps71
  go_wp2
  go_loopw [4, 5] (fun u i wr => ∃ (at_ m : Nat) (ua : Option Addr) (uc : Nat) (pre : List BK) (P : List PB), i = .int .i64 (at_ : Int) ∧ u = .slice ua m uc ∧ at_ ≤ l0.length ∧ 16 * m ≤ at_ ∧ Hid (m = P.length) ∧ Hid (BRow wr (w.heap.size + 1) (.slice ua m uc) P) ∧ Hid (BBad RAns (l0.drop at_) c d) ∧ Hid (P.map (·.1) = pre) ∧ Hid (Below (w.heap.size + 1) ((w.alloc (.cells #[.bool false, .int .i64 0, .int .i64 0] 44)).alloc (.cells #[] 87)) wr)) (fun _ i _ => l0.length - (intOf i).toNat)
  case atStart => exact ⟨0, 0, _, _, [], [], rfl, rfl, Nat.zero_le _, Nat.le_refl _, hide_ rfl, OE, HP, hide_ rfl, hide_ (Below.refl _ _)⟩
  case round =>
    obtain ⟨at_, m, ua, uc, pre, P, rfl, rfl, hn, hm, HM, HOw, HPP, HK, KB⟩ := hrel
    have KW := hide_ (B0.out.trans (KB.out.mono (Nat.le_succ _)))
    have HBw := hide_ (HB0.out.later KW.out)
    have hpo := HPP.out
    clear HPP
    generalize hdd : l0.drop at_ = dd at *
    cases hpo with
    | here hd =>
      subst hdd
      have hlr : (l0.drop at_).length = l0.length - at_ := List.length_drop
      obtain ⟨h0, hd⟩ := hd
      have g1 : (at_ : Int) < (l0.length : Int) := by omega
      have hw0 : IntKind.i64.wrap ((l0.length : Int) - (at_ : Int)) = (l0.length : Int) - (at_ : Int) := by rw [IntKind.wrap_i64]; omega
      by_cases hlen : (l0.length : Int) - (at_ : Int) < 16
      · have hcd : c = 6 ∧ d = 12 := by
          rcases hd with ⟨-, h⟩ | ⟨N, h1, -⟩
          · exact h
          · unfold cutOk at h1; omega
        obtain ⟨rfl, rfl⟩ := hcd
        clear hd hlr h0
        go_wp2_with (first | (go_at_call_of 55 (Value.int IntKind.i64 (at_ : Int)); refine (q0.out).mono ?_; rintro e w9 ⟨er0, rfl, rfl⟩) | (go_at_call 106; refine (rbad6_any 12 _).mono ?_; rintro e w9 ⟨rfl, b9⟩; have K9 := KB.out.trans (b9.mono (Nat.le_trans HSZ.out KB.out.size)); obtain ⟨s0, s1, s2', s3, s4, s5⟩ := (F0.out.below K9 (Nat.lt_succ_self _)).three; obtain ⟨u0, u1, u2, -⟩ := ((F0.out.below K9 (Nat.lt_succ_self _)).set3 (.bool true) (.int .i64 6) (.int .i64 12)).three; have bb := below_set3 (g := w.heap.size) (B0.out.trans (K9.mono (Nat.le_succ _))) (Nat.le_refl _) (.bool true) (.int .i64 6) (.int .i64 12)))
        exact bodyPost_ret (v := .tuple #[.slice none 0 0, .agg #[.bool true, .int .i64 6, .int .i64 12]]) (by simp [results, Tryz.results71, go_sem, u0, u1, u2]) rfl ⟨rfl, bb⟩
      have hz := be2_range HBw.out.isB_ at_
      obtain ⟨N, hN⟩ : ∃ N : Nat, be2 l0 at_ = (N : Int) := ⟨(be2 l0 at_).toNat, by omega⟩
      have hN' : be2 (l0.drop at_) 0 = (N : Int) := (be2_drop l0 at_ 0).symm.trans hN
      have q0 := rnget2 _ l0 at_ wr HBw.out (by omega)
      rw [hN] at q0
      by_cases hcut : cutOk (l0.drop at_)
      · obtain ⟨N', h1, h2, h3⟩ : ∃ N : Nat, cutOk (l0.drop at_) ∧ be2 (l0.drop at_) 0 = (N : Int) ∧ ((nzB (((l0.drop at_).take N).take 16 |>.drop 12) = true ∧ c = 6 ∧ d = 12) ∨ (nzB (((l0.drop at_).take N).take 16 |>.drop 12) = false ∧ c = 2 ∧ (ABad RAns (((l0.drop at_).take N).drop 16) d ∨ (d = 7 ∧ ∃ L, AOk RAns (((l0.drop at_).take N).drop 16) L ∧ 100 < L.length)))) := by
          rcases hd with ⟨h, -⟩ | h
          · exact absurd hcut h
          · exact h
        obtain rfl : N' = N := by omega
        clear hd h2
        rcases h3 with ⟨hz, rfl, rfl⟩ | ⟨hz, rfl, h4⟩
        · have h16 : 16 ≤ N' := by unfold cutOk at hcut; omega
          have hle : at_ + N' ≤ l0.length := by unfold cutOk at hcut; omega
          have h8 : ((N' : Nat) : Int) % 8 = 0 := by unfold cutOk at hcut; omega
          have g2 : ¬ ((l0.length : Int) - (at_ : Int) < 16) := by omega
          have g3 : ¬ ((N' : Int) < 16) := by omega
          have g4 : ¬ ((l0.length : Int) - (at_ : Int) < (N' : Int)) := by omega
          have g5 : ¬ ((N' : Int) > (l0.length : Int) - (at_ : Int)) := by omega
          obtain ⟨y12, y13, y14, y15, i12, i13, i14, i15, hnz⟩ := nz_four (m := l0.drop at_) (by omega)
          rw [take16 _ _ h16, hnz] at hz
          obtain ⟨-, -, -, hat⟩ := Bytes.at HBw.out
          obtain ⟨bq, off, eq0, C12⟩ := hat _ _ (drop_at _ _ _ _ i12)
          have e13 := hat _ _ (drop_at _ _ _ _ i13)
          have e14 := hat _ _ (drop_at _ _ _ _ i14)
          have e15 := hat _ _ (drop_at _ _ _ _ i15)
          subst eq0
          obtain ⟨_, _, eq1, C13⟩ := e13
          cases eq1
          obtain ⟨_, _, eq1, C14⟩ := e14
          cases eq1
          obtain ⟨_, _, eq1, C15⟩ := e15
          cases eq1
          have hw12 : IntKind.i64.wrap ((at_ : Int) + 12) = (at_ : Int) + 12 := by rw [IntKind.wrap_i64]; omega
          have hw13 : IntKind.i64.wrap ((at_ : Int) + 13) = (at_ : Int) + 13 := by rw [IntKind.wrap_i64]; omega
          have hw14 : IntKind.i64.wrap ((at_ : Int) + 14) = (at_ : Int) + 14 := by rw [IntKind.wrap_i64]; omega
          have hw15 : IntKind.i64.wrap ((at_ : Int) + 15) = (at_ : Int) + 15 := by rw [IntKind.wrap_i64]; omega
          have q0 := hide_ q0
          clear h1 hcut hnz i12 i13 i14 i15 hat hN hN' hlr h0
          by_cases e12 : y12 = 0
          · by_cases e13 : y13 = 0
            · by_cases e14 : y14 = 0
              · have e15 : ¬ y15 = 0 := by
                  intro e15
                  rw [e12, e13, e14, e15] at hz
                  simp at hz
                have e15b : (y15 != 0) = true := by simpa using e15
                subst e12 e13 e14
                clear hz
                go_wp2_with (first | (go_at_call_of 55 (Value.int IntKind.i64 (at_ : Int)); refine (q0.out).mono ?_; rintro e w9 ⟨er0, rfl, rfl⟩) | (go_at_call 106; refine (rbad6_any 12 _).mono ?_; rintro e w9 ⟨rfl, b9⟩; have K9 := KB.out.trans (b9.mono (Nat.le_trans HSZ.out KB.out.size)); obtain ⟨s0, s1, s2', s3, s4, s5⟩ := (F0.out.below K9 (Nat.lt_succ_self _)).three; obtain ⟨u0, u1, u2, -⟩ := ((F0.out.below K9 (Nat.lt_succ_self _)).set3 (.bool true) (.int .i64 6) (.int .i64 12)).three; have bb := below_set3 (g := w.heap.size) (B0.out.trans (K9.mono (Nat.le_succ _))) (Nat.le_refl _) (.bool true) (.int .i64 6) (.int .i64 12)))
                exact bodyPost_ret (v := .tuple #[.slice none 0 0, .agg #[.bool true, .int .i64 6, .int .i64 12]]) (by simp [results, Tryz.results71, go_sem, u0, u1, u2]) rfl ⟨rfl, bb⟩
              · subst e12 e13
                clear hz
                go_wp2_with (first | (go_at_call_of 55 (Value.int IntKind.i64 (at_ : Int)); refine (q0.out).mono ?_; rintro e w9 ⟨er0, rfl, rfl⟩) | (go_at_call 106; refine (rbad6_any 12 _).mono ?_; rintro e w9 ⟨rfl, b9⟩; have K9 := KB.out.trans (b9.mono (Nat.le_trans HSZ.out KB.out.size)); obtain ⟨s0, s1, s2', s3, s4, s5⟩ := (F0.out.below K9 (Nat.lt_succ_self _)).three; obtain ⟨u0, u1, u2, -⟩ := ((F0.out.below K9 (Nat.lt_succ_self _)).set3 (.bool true) (.int .i64 6) (.int .i64 12)).three; have bb := below_set3 (g := w.heap.size) (B0.out.trans (K9.mono (Nat.le_succ _))) (Nat.le_refl _) (.bool true) (.int .i64 6) (.int .i64 12)))
                exact bodyPost_ret (v := .tuple #[.slice none 0 0, .agg #[.bool true, .int .i64 6, .int .i64 12]]) (by simp [results, Tryz.results71, go_sem, u0, u1, u2]) rfl ⟨rfl, bb⟩
            · subst e12
              clear hz
              go_wp2_with (first | (go_at_call_of 55 (Value.int IntKind.i64 (at_ : Int)); refine (q0.out).mono ?_; rintro e w9 ⟨er0, rfl, rfl⟩) | (go_at_call 106; refine (rbad6_any 12 _).mono ?_; rintro e w9 ⟨rfl, b9⟩; have K9 := KB.out.trans (b9.mono (Nat.le_trans HSZ.out KB.out.size)); obtain ⟨s0, s1, s2', s3, s4, s5⟩ := (F0.out.below K9 (Nat.lt_succ_self _)).three; obtain ⟨u0, u1, u2, -⟩ := ((F0.out.below K9 (Nat.lt_succ_self _)).set3 (.bool true) (.int .i64 6) (.int .i64 12)).three; have bb := below_set3 (g := w.heap.size) (B0.out.trans (K9.mono (Nat.le_succ _))) (Nat.le_refl _) (.bool true) (.int .i64 6) (.int .i64 12)))
              exact bodyPost_ret (v := .tuple #[.slice none 0 0, .agg #[.bool true, .int .i64 6, .int .i64 12]]) (by simp [results, Tryz.results71, go_sem, u0, u1, u2]) rfl ⟨rfl, bb⟩
          · clear hz
            go_wp2_with (first | (go_at_call_of 55 (Value.int IntKind.i64 (at_ : Int)); refine (q0.out).mono ?_; rintro e w9 ⟨er0, rfl, rfl⟩) | (go_at_call 106; refine (rbad6_any 12 _).mono ?_; rintro e w9 ⟨rfl, b9⟩; have K9 := KB.out.trans (b9.mono (Nat.le_trans HSZ.out KB.out.size)); obtain ⟨s0, s1, s2', s3, s4, s5⟩ := (F0.out.below K9 (Nat.lt_succ_self _)).three; obtain ⟨u0, u1, u2, -⟩ := ((F0.out.below K9 (Nat.lt_succ_self _)).set3 (.bool true) (.int .i64 6) (.int .i64 12)).three; have bb := below_set3 (g := w.heap.size) (B0.out.trans (K9.mono (Nat.le_succ _))) (Nat.le_refl _) (.bool true) (.int .i64 6) (.int .i64 12)))
            exact bodyPost_ret (v := .tuple #[.slice none 0 0, .agg #[.bool true, .int .i64 6, .int .i64 12]]) (by simp [results, Tryz.results71, go_sem, u0, u1, u2]) rfl ⟨rfl, bb⟩
        · have hq : ∀ v W, Bytes W v (((l0.drop at_).take N').drop 16) → (((l0.drop at_).take N').drop 16).length ≤ 1000000 → Calls Tryz.prog 96 #[v] W fun e w' => e = .returned (.tuple #[.slice none 0 0, .agg #[.bool true, .int .i64 2, .int .i64 d]]) ∧ Below W.heap.size W w' := by
            intro v W hv hl
            rcases h4 with h4 | ⟨rfl, L, h4, h5⟩
            · exact rad_bad v _ d W hv hl h4
            · exact rad_many v _ L W hv hl h4 h5
          have hd : cutOk (l0.drop at_) ∧ be2 (l0.drop at_) 0 = (N' : Int) ∧ nzB (((l0.drop at_).take N').take 16 |>.drop 12) = false := ⟨h1, hN', hz⟩
          obtain ⟨nn, hnn⟩ : ∃ nn, N' = nn := ⟨_, rfl⟩
          subst hnn
          clear h1 h4 hcut hN hN' hz q0 hlr g1 hw0
          have hcut := hd.1
          have hN := hd.2.1
          have hz := hd.2.2
          have hlr : (l0.drop at_).length = l0.length - at_ := List.length_drop
          have h16 : 16 ≤ N' := by unfold cutOk at hcut; omega
          have hle : at_ + N' ≤ l0.length := by unfold cutOk at hcut; omega
          have h8 : ((N' : Nat) : Int) % 8 = 0 := by unfold cutOk at hcut; omega
          obtain ⟨y12, y13, y14, y15, i12, i13, i14, i15, hnz⟩ := nz_four (m := l0.drop at_) (by omega)
          rw [take16 _ _ h16, hnz] at hz
          have hzz : y12 = 0 ∧ y13 = 0 ∧ y14 = 0 ∧ y15 = 0 := by simpa using hz
          obtain ⟨rfl, rfl, rfl, rfl⟩ := hzz
          obtain ⟨-, -, -, hat⟩ := Bytes.at HBw.out
          obtain ⟨bq, off, eq0, C12⟩ := hat _ _ (drop_at _ _ _ _ i12)
          have e13 := hat _ _ (drop_at _ _ _ _ i13)
          have e14 := hat _ _ (drop_at _ _ _ _ i14)
          have e15 := hat _ _ (drop_at _ _ _ _ i15)
          subst eq0
          obtain ⟨_, _, eq1, C13⟩ := e13
          cases eq1
          obtain ⟨_, _, eq1, C14⟩ := e14
          cases eq1
          obtain ⟨_, _, eq1, C15⟩ := e15
          cases eq1
          have hlN : ((l0.drop at_).take N').length = N' := by rw [List.length_take]; omega
          have q0 := rnget2 _ l0 at_ wr HBw.out (by omega)
          rw [show be2 l0 at_ = (N' : Int) from (be2_drop l0 at_ 0).trans hN] at q0
          have eb1 : be2 ((l0.drop at_).take N') 2 = be2 l0 (at_ + 2) := (be2_take (by omega) (by omega)).trans (be2_drop l0 at_ 2).symm
          have eb2 : be4 ((l0.drop at_).take N') 4 = be4 l0 (at_ + 4) := (be4_take (by omega) (by omega)).trans (be4_drop l0 at_ 4).symm
          have eb3 : be4 ((l0.drop at_).take N') 8 = be4 l0 (at_ + 8) := (be4_take (by omega) (by omega)).trans (be4_drop l0 at_ 8).symm
          obtain ⟨v1, hv1⟩ : ∃ v, be2 l0 (at_ + 2) = v := ⟨_, rfl⟩
          obtain ⟨v2, hv2⟩ : ∃ v, be4 l0 (at_ + 4) = v := ⟨_, rfl⟩
          obtain ⟨v3, hv3⟩ : ∃ v, be4 l0 (at_ + 8) = v := ⟨_, rfl⟩
          obtain ⟨p2, hp2⟩ : ∃ p : Int, (at_ : Int) + 2 = p := ⟨_, rfl⟩
          obtain ⟨p4, hp4⟩ : ∃ p : Int, (at_ : Int) + 4 = p := ⟨_, rfl⟩
          obtain ⟨p8, hp8⟩ : ∃ p : Int, (at_ : Int) + 8 = p := ⟨_, rfl⟩
          have q2 : ∀ W, Below wr.heap.size wr W → Calls Tryz.prog 55 #[.slice (some ⟨bq, off, none⟩) l0.length cap0, .int .i64 p2, .int .i64 2] W fun e w' => ∃ er, e = .returned (.tuple #[.int .i64 v1, .int .i64 er]) ∧ W = w' := fun W hW => by
            have := rnget2 _ l0 (at_ + 2) W (HBw.out.later hW) (by omega)
            rw [hv1] at this
            rw [← hp2]
            exact this
          have q4 : ∀ W, Below wr.heap.size wr W → Calls Tryz.prog 55 #[.slice (some ⟨bq, off, none⟩) l0.length cap0, .int .i64 p4, .int .i64 4] W fun e w' => ∃ er, e = .returned (.tuple #[.int .i64 v2, .int .i64 er]) ∧ W = w' := fun W hW => by
            have := rnget4 _ l0 (at_ + 4) W (HBw.out.later hW) (by omega)
            rw [hv2] at this
            rw [← hp4]
            exact this
          have q8 : ∀ W, Below wr.heap.size wr W → Calls Tryz.prog 55 #[.slice (some ⟨bq, off, none⟩) l0.length cap0, .int .i64 p8, .int .i64 4] W fun e w' => ∃ er, e = .returned (.tuple #[.int .i64 v3, .int .i64 er]) ∧ W = w' := fun W hW => by
            have := rnget4 _ l0 (at_ + 8) W (HBw.out.later hW) (by omega)
            rw [hv3] at this
            rw [← hp8]
            exact this
          obtain ⟨ao2, sl2, bb2⟩ := bytes_mid HBw.out (at_ + 16) (at_ + N') (by omega) hle
          rw [mid_drop, show at_ + N' - (at_ + 16) = N' - 16 by omega] at bb2
          rw [show at_ + N' - (at_ + 16) = N' - 16 by omega] at sl2
          have sl2 : ∀ wx, (Instr.slice 25 (.slice (some ⟨bq, off, none⟩) l0.length cap0) (some (.int .i64 ((at_ : Int) + 16))) (some (.int .i64 ((at_ : Int) + (N' : Int)))) none).run Tryz.prog wx = .ok (.slice ao2 (N' - 16) (cap0 - (at_ + 16))) wx := sl2
          have g1 : (at_ : Int) < (l0.length : Int) := by omega
          have hw0 : IntKind.i64.wrap ((l0.length : Int) - (at_ : Int)) = (l0.length : Int) - (at_ : Int) := by rw [IntKind.wrap_i64]; omega
          have g2 : ¬ ((l0.length : Int) - (at_ : Int) < 16) := by omega
          have g3 : ¬ ((N' : Int) < 16) := by omega
          have g4 : ¬ ((l0.length : Int) - (at_ : Int) < (N' : Int)) := by omega
          have g5 : ¬ ((N' : Int) > (l0.length : Int) - (at_ : Int)) := by omega
          have hw2 : IntKind.i64.wrap ((at_ : Int) + 2) = p2 := by rw [IntKind.wrap_i64]; omega
          have hw4 : IntKind.i64.wrap ((at_ : Int) + 4) = p4 := by rw [IntKind.wrap_i64]; omega
          have hw8 : IntKind.i64.wrap ((at_ : Int) + 8) = p8 := by rw [IntKind.wrap_i64]; omega
          have hw12 : IntKind.i64.wrap ((at_ : Int) + 12) = (at_ : Int) + 12 := by rw [IntKind.wrap_i64]; omega
          have hw13 : IntKind.i64.wrap ((at_ : Int) + 13) = (at_ : Int) + 13 := by rw [IntKind.wrap_i64]; omega
          have hw14 : IntKind.i64.wrap ((at_ : Int) + 14) = (at_ : Int) + 14 := by rw [IntKind.wrap_i64]; omega
          have hw15 : IntKind.i64.wrap ((at_ : Int) + 15) = (at_ : Int) + 15 := by rw [IntKind.wrap_i64]; omega
          have hw16 : IntKind.i64.wrap ((at_ : Int) + 16) = (at_ : Int) + 16 := by rw [IntKind.wrap_i64]; omega
          have hwn : IntKind.i64.wrap ((at_ : Int) + (N' : Int)) = (at_ : Int) + (N' : Int) := by rw [IntKind.wrap_i64]; omega
          have qd := fun W (hW : Below wr.heap.size wr W) => hq _ W (bb2.later hW) (by rw [List.length_drop, hlN]; omega)
          have q0 := hide_ q0
          have q2 := hide_ q2
          have q4 := hide_ q4
          have q8 := hide_ q8
          have qd := hide_ qd
          have hle := hide_ hle
          clear hp2 hp4 hp8
          clear hd hcut hN hz hnz i12 i13 i14 i15 hat eb1 eb2 eb3 hv1 hv2 hv3 bb2 hlN hlr
          have J1 : Hid (Below wr.heap.size wr (wr.alloc (.cells #[.int .i64 0, .int .i64 0, .int .i64 0, .slice none 0 0] 87))) := hide_ (below1 wr _)
          have J2 : Hid (Below wr.heap.size wr (wr.alloc (.cells #[.int .i64 v1, .int .i64 0, .int .i64 0, .slice none 0 0] 87))) := hide_ (below1 wr _)
          have J3 : Hid (Below wr.heap.size wr (wr.alloc (.cells #[.int .i64 v1, .int .i64 v2, .int .i64 0, .slice none 0 0] 87))) := hide_ (below1 wr _)
          have J4 : Hid (Below wr.heap.size wr (wr.alloc (.cells #[.int .i64 v1, .int .i64 v2, .int .i64 v3, .slice none 0 0] 87))) := hide_ (below1 wr _)
          have X4 : Hid (AB (wr.alloc (.cells #[.int .i64 v1, .int .i64 v2, .int .i64 v3, .slice none 0 0] 87)) wr.heap.size 87 [.int .i64 v1, .int .i64 v2, .int .i64 v3, .slice none 0 0]) := hide_ (AB.at0 wr 87 [.int .i64 v1, .int .i64 v2, .int .i64 v3, .slice none 0 0])
          go_upto_region 17 with (first | (go_at_call_of 55 (Value.int IntKind.i64 (at_ : Int)); refine (q0.out).mono ?_; rintro e w9 ⟨er0, rfl, rfl⟩) | (go_at_call_of 55 (Value.int IntKind.i64 p2); refine (q2.out _ J1.out).mono ?_; rintro e w9 ⟨er2, rfl, rfl⟩) | (go_at_call_of 55 (Value.int IntKind.i64 p4); refine (q4.out _ J2.out).mono ?_; rintro e w9 ⟨er4, rfl, rfl⟩) | (go_at_call_of 55 (Value.int IntKind.i64 p8); refine (q8.out _ J3.out).mono ?_; rintro e w9 ⟨er8, rfl, rfl⟩) | (go_at_call 96; refine (qd.out _ J4.out).mono ?_; rintro e w5 ⟨rfl, b5⟩; have hb5 := hide_ b5; obtain ⟨f0, f1, f2, -⟩ := (AB.at0 w5 44 [.bool true, .int .i64 2, .int .i64 d]).three; clear b5))
          have K5 : Below wr.heap.size wr (w5.alloc (.cells #[.bool true, .int .i64 2, .int .i64 d] 44)) := J4.out.trans ((hb5.out.trans ((below1 w5 (.cells #[.bool true, .int .i64 2, .int .i64 d] 44)).mono hb5.out.size)).mono J4.out.size)
          have hg0 : (w.heap.size + 1) ≤ wr.heap.size := Nat.le_trans HSZ.out KB.out.size
          have KX := KB.out.trans (K5.mono hg0)
          have BX := B0.out.trans (KX.mono (Nat.le_succ _))
          have hgw : w.heap.size < w5.heap.size := by have h1 := J4.out.size; have h2 := hb5.out.size; omega
          have FD := F0.out.below KX (Nat.lt_succ_self _)
          clear K5 KX X4 J1 J2 J3 J4
          generalize (w5.alloc (.cells #[.bool true, .int .i64 2, .int .i64 d] 44)) = X at *
          have FD : AB X.drew w.heap.size 44 [.bool false, .int .i64 0, .int .i64 0] := FD
          obtain ⟨s0, s1, s2', s3, s4, s5⟩ := FD.three
          obtain ⟨u0, u1, u2, -⟩ := (FD.set3 (.bool true) (.int .i64 2) (.int .i64 d)).three
          clear FD
          refine wp_region_held_drew (S := (fun w' => w'.cell? ⟨w5.heap.size, 0, none⟩ = some (.bool true) ∧ w'.cell? ⟨w5.heap.size, 1, none⟩ = some (.int .i64 2) ∧ w'.cell? ⟨w5.heap.size, 2, none⟩ = some (.int .i64 d) ∧ Below w.heap.size w w')) (by kernel_rfl) (⟨f0, f1, f2, BX.drew⟩) (fun hHeld => ?_)
          generalize X.drew = D at *
          refine takeR (i := 0) (v := ?_) rfl (by kernel_rfl) (by kernel_rfl) (by kernel_rfl) (some 118) rfl (Or.inl ⟨by rfl, ?_⟩) (fun _ _ _ h => h) (by assumption) ?_
          rotate_left
          · intro w hSw; (try dsimp only at hSw); go_simp; (try with_reducible rfl)
          simp only [Act.put, List.setIfInBounds_toArray, List.set_cons_zero, List.set_cons_succ]
          refine takeR (i := 1) (v := ?_) rfl (by kernel_rfl) (by kernel_rfl) (by kernel_rfl) (some 2) rfl (Or.inl ⟨by rfl, ?_⟩) (fun _ _ _ h => h) (by assumption) ?_
          rotate_left
          · intro w hSw; (try dsimp only at hSw); go_simp; (try with_reducible rfl)
          simp only [Act.put, List.setIfInBounds_toArray, List.set_cons_zero, List.set_cons_succ]
          refine wpAnyH_ready (rs := [2]) (by kernel_rfl) (by simp) ?_
          refine AllReadyH.cons rfl (fun K hK => ?_) (AllReadyH.nil)
          go_simp
          refine hK.out _ _ (kW3_3 hHeld (by omega) (by dsimp only; omega) (by dsimp only; omega) (by dsimp only; omega)) (fun hHeld => ?_)
          clear hK K
          try simp only [Act.put, List.setIfInBounds_toArray, List.set_cons_zero, List.set_cons_succ]
          refine wpAnyH_done (by kernel_rfl) ?_ _
          go_wp2_with fail
          exact bodyPost_ret (v := .tuple #[.slice none 0 0, .agg #[.bool true, .int .i64 2, .int .i64 d]]) (by simp [results, Tryz.results71, go_sem, u0, u1, u2]) rfl ⟨rfl, hHeld.2.2.2⟩
      · have hcd : c = 6 ∧ d = 12 := by
          rcases hd with ⟨-, h⟩ | ⟨N, h1, -⟩
          · exact h
          · exact absurd h1 hcut
        obtain ⟨rfl, rfl⟩ := hcd
        have g2 : ¬ ((l0.length : Int) - (at_ : Int) < 16) := by omega
        have hno : ¬ (16 ≤ (N : Int) ∧ (N : Int) % 8 = 0 ∧ (N : Int) ≤ (l0.length : Int) - (at_ : Int)) := by
          clear hd
          intro h
          apply hcut
          unfold cutOk
          rw [hN', hlr]
          omega
        have q0 := hide_ q0
        clear hd hcut hN hN' hlr h0
        by_cases g3 : (N : Int) < 16
        · clear hno
          go_wp2_with (first | (go_at_call_of 55 (Value.int IntKind.i64 (at_ : Int)); refine (q0.out).mono ?_; rintro e w9 ⟨er0, rfl, rfl⟩) | (go_at_call 106; refine (rbad6_any 12 _).mono ?_; rintro e w9 ⟨rfl, b9⟩; have K9 := KB.out.trans (b9.mono (Nat.le_trans HSZ.out KB.out.size)); obtain ⟨s0, s1, s2', s3, s4, s5⟩ := (F0.out.below K9 (Nat.lt_succ_self _)).three; obtain ⟨u0, u1, u2, -⟩ := ((F0.out.below K9 (Nat.lt_succ_self _)).set3 (.bool true) (.int .i64 6) (.int .i64 12)).three; have bb := below_set3 (g := w.heap.size) (B0.out.trans (K9.mono (Nat.le_succ _))) (Nat.le_refl _) (.bool true) (.int .i64 6) (.int .i64 12)))
          exact bodyPost_ret (v := .tuple #[.slice none 0 0, .agg #[.bool true, .int .i64 6, .int .i64 12]]) (by simp [results, Tryz.results71, go_sem, u0, u1, u2]) rfl ⟨rfl, bb⟩
        · by_cases h8 : (N : Int) % 8 = 0
          · have g4 : ((l0.length : Int) - (at_ : Int) < (N : Int)) := by omega
            clear hno
            go_wp2_with (first | (go_at_call_of 55 (Value.int IntKind.i64 (at_ : Int)); refine (q0.out).mono ?_; rintro e w9 ⟨er0, rfl, rfl⟩) | (go_at_call 106; refine (rbad6_any 12 _).mono ?_; rintro e w9 ⟨rfl, b9⟩; have K9 := KB.out.trans (b9.mono (Nat.le_trans HSZ.out KB.out.size)); obtain ⟨s0, s1, s2', s3, s4, s5⟩ := (F0.out.below K9 (Nat.lt_succ_self _)).three; obtain ⟨u0, u1, u2, -⟩ := ((F0.out.below K9 (Nat.lt_succ_self _)).set3 (.bool true) (.int .i64 6) (.int .i64 12)).three; have bb := below_set3 (g := w.heap.size) (B0.out.trans (K9.mono (Nat.le_succ _))) (Nat.le_refl _) (.bool true) (.int .i64 6) (.int .i64 12)))
            exact bodyPost_ret (v := .tuple #[.slice none 0 0, .agg #[.bool true, .int .i64 6, .int .i64 12]]) (by simp [results, Tryz.results71, go_sem, u0, u1, u2]) rfl ⟨rfl, bb⟩
          · clear hno
            go_wp2_with (first | (go_at_call_of 55 (Value.int IntKind.i64 (at_ : Int)); refine (q0.out).mono ?_; rintro e w9 ⟨er0, rfl, rfl⟩) | (go_at_call 106; refine (rbad6_any 12 _).mono ?_; rintro e w9 ⟨rfl, b9⟩; have K9 := KB.out.trans (b9.mono (Nat.le_trans HSZ.out KB.out.size)); obtain ⟨s0, s1, s2', s3, s4, s5⟩ := (F0.out.below K9 (Nat.lt_succ_self _)).three; obtain ⟨u0, u1, u2, -⟩ := ((F0.out.below K9 (Nat.lt_succ_self _)).set3 (.bool true) (.int .i64 6) (.int .i64 12)).three; have bb := below_set3 (g := w.heap.size) (B0.out.trans (K9.mono (Nat.le_succ _))) (Nat.le_refl _) (.bool true) (.int .i64 6) (.int .i64 12)))
            exact bodyPost_ret (v := .tuple #[.slice none 0 0, .agg #[.bool true, .int .i64 6, .int .i64 12]]) (by simp [results, Tryz.results71, go_sem, u0, u1, u2]) rfl ⟨rfl, bb⟩
    | @cons _ nn LL _ _ hd hrest =>
      subst hdd
      have hrest := hide_ hrest
      have hcut := hd.1
      have hN := hd.2.1
      have hz := hd.2.2.1
      have hlr : (l0.drop at_).length = l0.length - at_ := List.length_drop
      have h16 : 16 ≤ nn := by unfold cutOk at hcut; omega
      have hle : at_ + nn ≤ l0.length := by unfold cutOk at hcut; omega
      have h8 : ((nn : Nat) : Int) % 8 = 0 := by unfold cutOk at hcut; omega
      obtain ⟨y12, y13, y14, y15, i12, i13, i14, i15, hnz⟩ := nz_four (m := l0.drop at_) (by omega)
      rw [take16 _ _ h16, hnz] at hz
      have hzz : y12 = 0 ∧ y13 = 0 ∧ y14 = 0 ∧ y15 = 0 := by simpa using hz
      obtain ⟨rfl, rfl, rfl, rfl⟩ := hzz
      obtain ⟨-, -, -, hat⟩ := Bytes.at HBw.out
      obtain ⟨bq, off, eq0, C12⟩ := hat _ _ (drop_at _ _ _ _ i12)
      have e13 := hat _ _ (drop_at _ _ _ _ i13)
      have e14 := hat _ _ (drop_at _ _ _ _ i14)
      have e15 := hat _ _ (drop_at _ _ _ _ i15)
      subst eq0
      obtain ⟨_, _, eq1, C13⟩ := e13
      cases eq1
      obtain ⟨_, _, eq1, C14⟩ := e14
      cases eq1
      obtain ⟨_, _, eq1, C15⟩ := e15
      cases eq1
      have hlN : ((l0.drop at_).take nn).length = nn := by rw [List.length_take]; omega
      have q0 := rnget2 _ l0 at_ wr HBw.out (by omega)
      rw [show be2 l0 at_ = (nn : Int) from (be2_drop l0 at_ 0).trans hN] at q0
      have eb1 : be2 ((l0.drop at_).take nn) 2 = be2 l0 (at_ + 2) := (be2_take (by omega) (by omega)).trans (be2_drop l0 at_ 2).symm
      have eb2 : be4 ((l0.drop at_).take nn) 4 = be4 l0 (at_ + 4) := (be4_take (by omega) (by omega)).trans (be4_drop l0 at_ 4).symm
      have eb3 : be4 ((l0.drop at_).take nn) 8 = be4 l0 (at_ + 8) := (be4_take (by omega) (by omega)).trans (be4_drop l0 at_ 8).symm
      obtain ⟨v1, hv1⟩ : ∃ v, be2 l0 (at_ + 2) = v := ⟨_, rfl⟩
      obtain ⟨v2, hv2⟩ : ∃ v, be4 l0 (at_ + 4) = v := ⟨_, rfl⟩
      obtain ⟨v3, hv3⟩ : ∃ v, be4 l0 (at_ + 8) = v := ⟨_, rfl⟩
      obtain ⟨p2, hp2⟩ : ∃ p : Int, (at_ : Int) + 2 = p := ⟨_, rfl⟩
      obtain ⟨p4, hp4⟩ : ∃ p : Int, (at_ : Int) + 4 = p := ⟨_, rfl⟩
      obtain ⟨p8, hp8⟩ : ∃ p : Int, (at_ : Int) + 8 = p := ⟨_, rfl⟩
      have q2 : ∀ W, Below wr.heap.size wr W → Calls Tryz.prog 55 #[.slice (some ⟨bq, off, none⟩) l0.length cap0, .int .i64 p2, .int .i64 2] W fun e w' => ∃ er, e = .returned (.tuple #[.int .i64 v1, .int .i64 er]) ∧ W = w' := fun W hW => by
        have := rnget2 _ l0 (at_ + 2) W (HBw.out.later hW) (by omega)
        rw [hv1] at this
        rw [← hp2]
        exact this
      have q4 : ∀ W, Below wr.heap.size wr W → Calls Tryz.prog 55 #[.slice (some ⟨bq, off, none⟩) l0.length cap0, .int .i64 p4, .int .i64 4] W fun e w' => ∃ er, e = .returned (.tuple #[.int .i64 v2, .int .i64 er]) ∧ W = w' := fun W hW => by
        have := rnget4 _ l0 (at_ + 4) W (HBw.out.later hW) (by omega)
        rw [hv2] at this
        rw [← hp4]
        exact this
      have q8 : ∀ W, Below wr.heap.size wr W → Calls Tryz.prog 55 #[.slice (some ⟨bq, off, none⟩) l0.length cap0, .int .i64 p8, .int .i64 4] W fun e w' => ∃ er, e = .returned (.tuple #[.int .i64 v3, .int .i64 er]) ∧ W = w' := fun W hW => by
        have := rnget4 _ l0 (at_ + 8) W (HBw.out.later hW) (by omega)
        rw [hv3] at this
        rw [← hp8]
        exact this
      obtain ⟨ao2, sl2, bb2⟩ := bytes_mid HBw.out (at_ + 16) (at_ + nn) (by omega) hle
      rw [mid_drop, show at_ + nn - (at_ + 16) = nn - 16 by omega] at bb2
      rw [show at_ + nn - (at_ + 16) = nn - 16 by omega] at sl2
      have sl2 : ∀ wx, (Instr.slice 25 (.slice (some ⟨bq, off, none⟩) l0.length cap0) (some (.int .i64 ((at_ : Int) + 16))) (some (.int .i64 ((at_ : Int) + (nn : Int)))) none).run Tryz.prog wx = .ok (.slice ao2 (nn - 16) (cap0 - (at_ + 16))) wx := sl2
      have g1 : (at_ : Int) < (l0.length : Int) := by omega
      have hw0 : IntKind.i64.wrap ((l0.length : Int) - (at_ : Int)) = (l0.length : Int) - (at_ : Int) := by rw [IntKind.wrap_i64]; omega
      have g2 : ¬ ((l0.length : Int) - (at_ : Int) < 16) := by omega
      have g3 : ¬ ((nn : Int) < 16) := by omega
      have g4 : ¬ ((l0.length : Int) - (at_ : Int) < (nn : Int)) := by omega
      have g5 : ¬ ((nn : Int) > (l0.length : Int) - (at_ : Int)) := by omega
      have hw2 : IntKind.i64.wrap ((at_ : Int) + 2) = p2 := by rw [IntKind.wrap_i64]; omega
      have hw4 : IntKind.i64.wrap ((at_ : Int) + 4) = p4 := by rw [IntKind.wrap_i64]; omega
      have hw8 : IntKind.i64.wrap ((at_ : Int) + 8) = p8 := by rw [IntKind.wrap_i64]; omega
      have hw12 : IntKind.i64.wrap ((at_ : Int) + 12) = (at_ : Int) + 12 := by rw [IntKind.wrap_i64]; omega
      have hw13 : IntKind.i64.wrap ((at_ : Int) + 13) = (at_ : Int) + 13 := by rw [IntKind.wrap_i64]; omega
      have hw14 : IntKind.i64.wrap ((at_ : Int) + 14) = (at_ : Int) + 14 := by rw [IntKind.wrap_i64]; omega
      have hw15 : IntKind.i64.wrap ((at_ : Int) + 15) = (at_ : Int) + 15 := by rw [IntKind.wrap_i64]; omega
      have hw16 : IntKind.i64.wrap ((at_ : Int) + 16) = (at_ : Int) + 16 := by rw [IntKind.wrap_i64]; omega
      have hwn : IntKind.i64.wrap ((at_ : Int) + (nn : Int)) = (at_ : Int) + (nn : Int) := by rw [IntKind.wrap_i64]; omega
      have qd := fun W (hW : Below wr.heap.size wr W) => rad_ok _ _ LL W (bb2.later hW) (by rw [List.length_drop, hlN]; omega) hd.2.2.2.1 hd.2.2.2.2
      have HRE := hide_ (show bkOf (l0.drop at_) nn LL = (v1, v2, v3, LL) by unfold bkOf; rw [eb1, eb2, eb3, hv1, hv2, hv3])
      obtain ⟨rn, hrn⟩ : ∃ rn, LL.length = rn := ⟨_, rfl⟩
      have HRN := hide_ hrn
      have q0 := hide_ q0
      have q2 := hide_ q2
      have q4 := hide_ q4
      have q8 := hide_ q8
      have qd := hide_ qd
      have hle := hide_ hle
      clear hp2 hp4 hp8
      clear hd hcut hN hz hnz i12 i13 i14 i15 hat eb1 eb2 eb3 hv1 hv2 hv3 bb2 hrn hlN hlr
      have J1 : Hid (Below wr.heap.size wr (wr.alloc (.cells #[.int .i64 0, .int .i64 0, .int .i64 0, .slice none 0 0] 87))) := hide_ (below1 wr _)
      have J2 : Hid (Below wr.heap.size wr (wr.alloc (.cells #[.int .i64 v1, .int .i64 0, .int .i64 0, .slice none 0 0] 87))) := hide_ (below1 wr _)
      have J3 : Hid (Below wr.heap.size wr (wr.alloc (.cells #[.int .i64 v1, .int .i64 v2, .int .i64 0, .slice none 0 0] 87))) := hide_ (below1 wr _)
      have J4 : Hid (Below wr.heap.size wr (wr.alloc (.cells #[.int .i64 v1, .int .i64 v2, .int .i64 v3, .slice none 0 0] 87))) := hide_ (below1 wr _)
      have X4 : Hid (AB (wr.alloc (.cells #[.int .i64 v1, .int .i64 v2, .int .i64 v3, .slice none 0 0] 87)) wr.heap.size 87 [.int .i64 v1, .int .i64 v2, .int .i64 v3, .slice none 0 0]) := hide_ (AB.at0 wr 87 [.int .i64 v1, .int .i64 v2, .int .i64 v3, .slice none 0 0])
      go_upto_region 19 with (first | (go_at_call_of 55 (Value.int IntKind.i64 (at_ : Int)); refine (q0.out).mono ?_; rintro e w9 ⟨er0, rfl, rfl⟩) | (go_at_call_of 55 (Value.int IntKind.i64 p2); refine (q2.out _ J1.out).mono ?_; rintro e w9 ⟨er2, rfl, rfl⟩) | (go_at_call_of 55 (Value.int IntKind.i64 p4); refine (q4.out _ J2.out).mono ?_; rintro e w9 ⟨er4, rfl, rfl⟩) | (go_at_call_of 55 (Value.int IntKind.i64 p8); refine (q8.out _ J3.out).mono ?_; rintro e w9 ⟨er8, rfl, rfl⟩) | (go_at_call 96; refine (qd.out _ J4.out).mono ?_; rintro e w5 ⟨⟨r, rfl, ho⟩, b5⟩; obtain ⟨ru, rc, er⟩ := ownr_form ho; rw [HRN.out] at er; subst er; have HA5 := hide_ ho; have hb5 := hide_ b5; obtain ⟨z0, z1, z2, z3, z4, z5, z6, z7⟩ := ((X4.out.later b5).alloc (.cells #[.bool false, .int .i64 0, .int .i64 0] 44)).k4; obtain ⟨f0, f1, f2, -⟩ := (AB.at0 w5 44 [.bool false, .int .i64 0, .int .i64 0]).three; clear ho b5))
      have X6 : AB ((w5.alloc (.cells #[.bool false, .int .i64 0, .int .i64 0] 44)).setCell ⟨wr.heap.size, 3, none⟩ (.slice ru rn rc)) wr.heap.size 87 [.int .i64 v1, .int .i64 v2, .int .i64 v3, .slice ru rn rc] := (((X4.out.later hb5.out).alloc (.cells #[.bool false, .int .i64 0, .int .i64 0] 44)).set (j := 3) (.slice ru rn rc))
      have K5 : Below wr.heap.size wr (w5.alloc (.cells #[.bool false, .int .i64 0, .int .i64 0] 44)) := J4.out.trans ((hb5.out.trans ((below1 w5 (.cells #[.bool false, .int .i64 0, .int .i64 0] 44)).mono hb5.out.size)).mono J4.out.size)
      have K6 : Below wr.heap.size wr ((w5.alloc (.cells #[.bool false, .int .i64 0, .int .i64 0] 44)).setCell ⟨wr.heap.size, 3, none⟩ (.slice ru rn rc)) := K5.setCell (p := ⟨wr.heap.size, 3, none⟩) (Nat.le_refl _) _
      have HRV := hide_ (HOw.out.later K6)
      have hlt4 : wr.heap.size < (wr.alloc (.cells #[.int .i64 v1, .int .i64 v2, .int .i64 v3, .slice none 0 0] 87)).heap.size := X4.out.lt
      have hg0 : (w.heap.size + 1) ≤ wr.heap.size := Nat.le_trans HSZ.out KB.out.size
      have HAV := hide_ (ownr_base (far1row (ownr_later HA5.out (below1 w5 (.cells #[.bool false, .int .i64 0, .int .i64 0] 44))) hlt4 3 (.slice ru rn rc)) (Nat.le_trans hg0 (Nat.le_of_lt hlt4)))
      have hsV := hide_ (Nat.le_trans hg0 K6.size)
      have KV := hide_ (KB.out.trans (K6.mono hg0))
      obtain ⟨c0, c1, c2, c3, -⟩ := X6.k4
      clear X6 K5 K6 hlt4 hg0 z0 z1 z2 z3 z4 z5 z6 z7 f0 f1 f2 hb5 HA5 X4 J1 J2 J3 J4
      generalize ((w5.alloc (.cells #[.bool false, .int .i64 0, .int .i64 0] 44)).setCell ⟨wr.heap.size, 3, none⟩ (.slice ru rn rc)) = V at *
      go_wp2_with (at_builtin; refine wpList_append_newG (.tmp 121) (.tmp 123) 48 rfl 87 i0 (.agg #[.int .i64 0, .int .i64 0, .int .i64 0, .slice none 0 0]) 4 48 Tryz.underlying48 HI.out.1 HI.out.2.1 HI.out.2.2.1 HI.out.2.2.2 rfl (by decide) (w.heap.size + 1) (.slice ua m uc) m (bds P) (by simp [Act.eval, Act.put]) V (by have := HRV.out.1; rw [← HM.out] at this; exact this) [.int .i64 v1, .int .i64 v2, .int .i64 v3, .slice ru rn rc] _ rfl 1 (by simp) (by simp [Value.oneCell']) (by simp [Act.eval, Act.put]) (by simp [Region.wanted]) (by unfold maxLen; omega) (by omega) hsV.out ?_; intro v8 w8 own8 b8 g8)
      have HAV2 : V.ownsRow (w.heap.size + 1) 61 11 (.slice ru rn rc) LL.length (ads LL) := by have := HAV.out; rw [← HRN.out] at this ⊢; exact this
      have R8 : BRow w8 (w.heap.size + 1) v8 (P ++ [((v1, v2, v3, LL), (.slice ru rn rc))]) := BRow.push HRV.out HAV2 (by rw [← HM.out]; exact own8) g8
      have hl8 : (P ++ [((v1, v2, v3, LL), Value.slice ru rn rc)]).length = m + 1 := by rw [List.length_append, ← HM.out]; rfl
      obtain ⟨ua8, uc8, e8⟩ := ownr_form R8.1
      rw [hl8] at e8
      subst e8
      have R8 := hide_ R8
      have HM8 := hide_ hl8.symm
      have HK2 := hide_ (show (P ++ [((v1, v2, v3, LL), Value.slice ru rn rc)]).map (·.1) = pre ++ [(v1, v2, v3, LL)] by rw [List.map_append, HK.out]; rfl)
      have K8 := hide_ (KV.out.trans b8)
      have HWN := hide_ (show (at_ : Int) + (nn : Int) = ((at_ + nn : Nat) : Int) by omega)
      clear hl8 own8 g8 b8 HAV2
      go_wp2
      go_roundw
      case rel => exact ⟨at_ + nn, m + 1, ua8, uc8, pre ++ [(v1, v2, v3, LL)], P ++ [((v1, v2, v3, LL), .slice ru rn rc)], by first | (rw [HWN.out]; done) | simp, rfl, hle.out, by omega, HM8, R8, hide_ (by rw [← List.drop_drop]; exact hrest.out), HK2, K8⟩
      case measure => simp [intOf]; omega
end Go.Proofs.YthhijfphfcmniaaGreat

