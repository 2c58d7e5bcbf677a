import Derived.Test.YtcfoieaejpdleaaNr
import Derived.Deep.RegionHeld3
import Derived.Deep.RegionWith
import Derived.Deep.MidRow
import Derived.Deep.Cut
import Derived.WalkMore
namespace Go.Proofs.Ytcfoieaejpdleaa
open Go Go.RowKit
set_option linter.unusedVariables false
set_option linter.unusedSimpArgs false
attribute [local go_sem] Oper.semAt_some

set_option maxRecDepth 100000 in
set_option maxHeartbeats 8000000 in
theorem fb_main (k x : Int) (u v : Value) (M : List (List Int)) (r : List Int) (w : World) (hM : RB w u M) (hr : Bytes w v r) (hk0 : 0 ≤ k) (hk1 : k < 256) (hx0 : 0 ≤ x) (hx1 : x < 4294967296) (h20 : M.length ≤ 20) (hz : anyL M = false) (h7 : r.length ≤ 7) :
    Calls Try.prog 6 #[.int .u8 k, .int .u32 x, u, v] w fun e w' => e = .returned (.bool true) ∧ Below w.heap.size w w' := by
  have q := hide_ (cont400_any u M w hM)
  have HM0 := hide_ hM
  have HR0 := hide_ hr
  have H4 := hide_ (anyL_no hz)
  obtain ⟨ao, cap, rfl⟩ := hr.short
  obtain ⟨a, c, rfl, h1, h2, hrb⟩ := hM
  have HRB := hide_ hrb
  have hm2 : M.length ≤ 9223372036854775807 := by unfold maxLen at h2; omega
  have hmr : r.length ≤ 9223372036854775807 := by omega
  clear hr h1 h2 hrb
  have g : ¬ (20 : Int) < (M.length : Int) := by omega
  have g2 : ¬ (7 : Int) < (r.length : Int) := by omega
  rw [hz] at q
  clear hz
  have hwk : IntKind.i64.wrap k = k := by rw [IntKind.wrap_i64]; omega
  have hwx : IntKind.i64.wrap x = x := by rw [IntKind.wrap_i64]; omega
  have hpos : ∀ y ∈ heads k x M, 8 ≤ y.length ∧ be2 y 2 = (y.length : Int) := fun y hy => by
    obtain ⟨z, hz, rfl⟩ := List.mem_map.1 hy
    have := H4.out z hz
    exact ⟨by rw [headF_len]; omega, headF_be2 k x z (by omega)⟩
  have hfl := heads_flat k x M H4.out
  have hcut := cuts_msgs r (by omega) (heads k x M) hpos
  have hll : (heads k x M).length = M.length := by simp [heads]
  have hlen : ((heads k x M).flatten ++ r).length ≤ 100000 := by rw [List.length_append]; omega
  obtain ⟨HS, hHS⟩ : ∃ HS, heads k x M = HS := ⟨_, rfl⟩
  rw [hHS] at hpos hfl hcut hll hlen
  obtain ⟨Y, hY⟩ : ∃ Y, HS.flatten ++ r = Y := ⟨_, rfl⟩
  have q2 := hide_ (fun u W (h : RowsAt W u HS) => join_any u HS W h (fun y hy => by have := hpos y hy; omega) (by omega) (by omega) (rows_nil h))
  have HFL := hide_ (show HS.flatten.length + r.length ≤ 100000 by rw [← List.length_append]; exact hlen)
  rw [hY] at hcut hlen
  have q1 := hide_ (fun v4 W (h : Bytes W v4 Y) => list_any v4 Y r HS W h (by omega) hcut)
  have q3 := hide_ (fun v4 W (h : Bytes W v4 Y) => rest_any v4 Y r HS W h (by omega) hcut)
  have HHS := hide_ hHS
  have HY := hide_ hY
  have HR : ∀ z ∈ M, headR k x z = true := fun z hz => by
    have := H4.out z hz
    unfold headR
    simp [rightB, szB, lim]
    omega
  have HR := hide_ HR
  obtain ⟨i0, hi0, hz0, hz1, hz2⟩ := info_parts infoS
  have HI : Hid (Try.prog.info? 22 = some i0 ∧ i0.zero = some (.slice none 0 0) ∧ i0.size = 1 ∧ i0.bytes = 24) := hide_ ⟨hi0, hz0, hz1, hz2⟩
  have HLL := hide_ hll
  clear hi0 hz0 hz1 hz2 hpos hfl hcut hlen hll hk0 hk1 hx0 hx1 hHS hY
  go_enter Try.func6, Try.ntmps6
  go_wp2_with (go_at_call 19; refine q.out.mono ?_; rintro e w0 ⟨rfl, b0⟩; have K0 := hide_ b0; clear b0)
  go_loopw [9, 30] (fun u i wr => ∃ (j : Nat) (ua : Option Addr) (uc : Nat) (vs : List Value), i = .int .i64 j ∧ u = .slice ua j uc ∧ j ≤ M.length ∧ Hid (RowsE wr w.heap.size (.slice ua j uc) (heads k x (M.take j)) vs) ∧ Hid (Below w.heap.size w wr)) (fun _ i _ => M.length - (intOf i).toNat)
  case atStart => exact ⟨0, none, 0, [], rfl, rfl, Nat.zero_le _, hide_ (RowsE.nil _ _), K0⟩
  case round =>
    obtain ⟨j, ua, uc, vs, rfl, rfl, hj, HRW, KB⟩ := hrel
    by_cases hlt : j < M.length
    · obtain ⟨z, hz⟩ : ∃ z, M[j]? = some z := ⟨_, List.getElem?_eq_getElem hlt⟩
      obtain ⟨b1, off1, a1, c1, rfl, x1, y1⟩ := HRB.out j z hz
      have x1 := cell_later KB.out x1
      have y1 := hide_ (y1.later KB.out)
      have hz400 := H4.out z (List.mem_of_getElem? hz)
      have hr := HR.out z (List.mem_of_getElem? hz)
      have HT := hide_ (heads_take k x M j z hz)
      have hlj := heads_len k x M j hj
      have hlt' : (j : Int) < (M.length : Int) := by omega
      have hBl := headF_len k x z
      have hBd := headF_drop k x z
      have q4 := (head_yes k x (.slice a1 z.length c1) z wr y1.out hr).mono (R' := fun e w' => ∃ a c, e = .returned (.tuple #[.slice a (headF k x z).length c, .int .i64 0]) ∧ OwnE w' (.slice a (headF k x z).length c) (headF k x z) ∧ Below wr.heap.size wr w') (by
        rintro e w' ⟨r, rfl, o, b⟩
        have ho : OwnE w' r (headF k x z) := ⟨by rw [headF_len]; exact ownsRow_base o (Nat.zero_le _), headF_isB y1.out.isB_ hr⟩
        obtain ⟨a, c, rfl⟩ := ho.bytes.short
        exact ⟨a, c, rfl, ho, b⟩)
      generalize headF k x z = B at *
      obtain ⟨nB, hnB⟩ : ∃ n, B.length = n := ⟨_, rfl⟩
      rw [hnB] at q4 hBl
      have q4 := hide_ q4
      have HBD := hide_ hBd
      have HNB := hide_ hnB
      have hw8 : IntKind.i64.wrap (8 + (z.length : Int)) = (nB : Int) := by rw [IntKind.wrap_i64]; omega
      have hnz : nB - 8 = z.length := by omega
      have h8 : 8 ≤ nB := by omega
      have HLJ := hide_ hlj
      have HNZ := hide_ hnz
      clear hz hr hBd hnB hlj HR H4 HRB hBl hnz
      go_upto_region 10 with (first
        | (go_at_call 17; refine q4.out.mono ?_; rintro e w1 ⟨a2, c2, rfl, h1, b1⟩; have k1 := hide_ b1; have H1 := hide_ h1; have y2 := hide_ (y1.out.later b1); obtain ⟨ao3, sl2, sl3, s3⟩ := bytes_slice h1.bytes 8 (by rw [HNB.out]; exact h8); have sl3 : ∀ wx, (Instr.slice 22 (.slice a2 nB c2) (some (.int .i64 8)) none none).run Try.prog wx = .ok (.slice ao3 (nB - 8) (c2 - 8)) wx := sl3; have sl2 : ∀ wx, (Instr.sliceAt 22 (.slice a2 nB c2) (some (.int .i64 8)) none none).run Try.prog wx = .ok (.slice ao3 (nB - 8) (c2 - 8)) wx := sl2; simp only [HNZ.out] at sl2 sl3 s3; rw [HBD.out] at s3; have S3 := hide_ s3; clear h1 b1 s3)
        | (go_at_call 12; refine (bequal_any (.slice ao3 z.length (c2 - 8)) (.slice a1 z.length c1) z z _ S3.out y2.out).mono ?_; rintro e w2 ⟨rfl, e2⟩; have e2 := e2.symm; subst e2; rw [beq_self_eq_true]))
      go_wp2_with (at_builtin; refine wpList_append_own_at _ rfl (.tmp 60) (.tmp 62) 27 rfl w.heap.size 22 i0 (.slice none 0 0) 1 24 Try.underlying27 HI.out.1 HI.out.2.1 HI.out.2.2.1 HI.out.2.2.2 rfl (by decide) (.slice ua j uc) j vs (by simp [Act.eval, Act.put]) (by have := ((HRW.out.later k1.out).later (below1 w1 (.cells #[.slice a2 nB c2] 22))).1; rw [HLJ.out] at this; exact this) ⟨w1.heap.size, 0, none⟩ 1 1 [.slice a2 nB c2] (by simp [Act.eval, Act.put]) (by simp) (news_alloc _ _ _) (by intro v hv; simp at hv; subst hv; rfl) (by unfold maxLen; omega) (by omega) (by have := KB.out.size; have := k1.out.size; simp; omega) ?_; intro v3 w3 ho3 hg3 hnil3 hat3; have R2 := (HRW.out.later k1.out).later (below1 w1 (.cells #[.slice a2 nB c2] 22)); have R3 := hide_ (RowsE.push R2 (H1.out.later (below1 w1 (.cells #[.slice a2 nB c2] 22))) ⟨a2, c2, by rw [HNB.out]⟩ (by rw [HLJ.out]; exact ho3) hg3); have b3 := below_grown hg3 w.heap.size (by have := KB.out.size; have := k1.out.size; simp; omega) (fun g e => (own_block_lt R2.1 e).1); have K3 := hide_ (KB.out.trans ((k1.out.mono KB.out.size).trans (((below1 w1 (.cells #[.slice a2 nB c2] 22)).mono (Nat.le_trans KB.out.size k1.out.size)).trans b3))); obtain ⟨g3, c3, rfl, -, -⟩ := own_form ho3 (by omega); clear R2 ho3 hg3 hnil3 hat3 b3)
      go_roundw
      case rel => exact ⟨j + 1, _, c3, _, by go_num, rfl, by omega, hide_ (by rw [HT.out]; exact R3.out), K3⟩
      case measure => simp [intOf]; omega
    · have hlt' : ¬ (j : Int) < (M.length : Int) := by omega
      have HRE : Hid (RowsE wr w.heap.size (.slice ua j uc) HS vs) := hide_ (by
        have := HRW.out
        rw [List.take_of_length_le (by omega), HHS.out] at this
        exact this)
      clear HRW HR H4 HRB
      go_wp2_with (first
        | (go_at_call 16; refine (q2.out _ _ HRE.out.rows).mono ?_; rintro e w2 ⟨v2, rfl, J2, b2⟩; have k2 := hide_ (KB.out.trans (b2.mono KB.out.size)); have J2 := hide_ J2; have z2 := hide_ b2)
        | (at_builtin; obtain ⟨v4, w4, hrun, h5, b4⟩ := app_jb 22 z2.out.size J2.out (HR0.out.later k2.out) (by have := HFL.out; omega); refine Lib.wpList_append_run_sl _ rfl (.tmp 66) (.tmp 67) 22 rfl _ _ (by simp [Act.eval, Act.put]) (by simp [Act.eval, Act.put]) hrun ?_; rw [HY.out] at h5; obtain ⟨a4, c4, e4⟩ := h5.short; subst e4; have h5 := hide_ h5; have k4 := hide_ (k2.out.trans (b4.mono KB.out.size)); have E4 := hide_ (HRE.out.later (z2.out.trans b4)); clear b4 hrun)
        | (go_at_call 11; refine (q1.out _ _ h5.out).mono ?_; rintro e w5 ⟨u5, rfl, R5, g5, b5⟩; have k5 := hide_ (k4.out.trans (b5.mono k4.out.size)); have R5 := hide_ R5.rb; have E5 := hide_ (E4.out.later b5).rows.rb; have h5 := hide_ (h5.out.later b5); clear b5 g5)
        | (go_at_call 10; refine (eqf_any u5 (.slice ua j uc) HS HS w5 R5.out E5.out).mono ?_; rintro e w6 ⟨rfl, b6⟩; rw [beq_self_eq_true]; have k6 := hide_ (k5.out.trans (b6.mono k5.out.size)); have h5 := hide_ (h5.out.later b6); clear b6)
        | (go_at_call 14; refine (q3.out _ _ h5.out).mono ?_; rintro e w7 ⟨a7, c7, rfl, h8, b7⟩; have k7 := hide_ (k6.out.trans (b7.mono k6.out.size)); have h8 := hide_ h8; clear b7)
        | (go_at_call 12; refine (bequal_any (.slice a7 r.length c7) (.slice ao r.length cap) r r w7 h8.out (HR0.out.later k7.out)).mono ?_; rintro e w8 ⟨rfl, e8⟩; have e8 := e8.symm; subst e8; rw [beq_self_eq_true])
        | (go_at_call 7; refine (awake16_any _).mono ?_; rintro e w9 ⟨rfl, b9⟩))
      go_ret
      exact ⟨rfl, k7.out.trans (b9.mono k7.out.size)⟩

theorem frameBack_walk (k x : Int) (u v : Value) (M : List (List Int)) (r : List Int) (w : World) (hM : RB w u M) (hr : Bytes w v r) (hk0 : 0 ≤ k) (hk1 : k < 256) (hx0 : 0 ≤ x) (hx1 : x < 4294967296) :
    Calls Try.prog 6 #[.int .u8 k, .int .u32 x, u, v] w fun e w' => e = .returned (.bool true) ∧ Below w.heap.size w w' := by
  by_cases h20 : M.length ≤ 20
  · cases hz : anyL M
    · by_cases h7 : r.length ≤ 7
      · exact fb_main k x u v M r w hM hr hk0 hk1 hx0 hx1 h20 hz h7
      · exact fb_dark k x u v M r w hM hr (.inr (.inr ⟨h20, hz, by omega⟩))
    · exact fb_dark k x u v M r w hM hr (.inr (.inl ⟨h20, hz⟩))
  · exact fb_dark k x u v M r w hM hr (.inl (by omega))
theorem u8_nat {a : Int} (h : (Lit.int .u8 a).wf = true) : ∃ n : Nat, a = (n : Int) ∧ n < 256 := by
  have e1 : IntKind.u8.min = 0 := by decide
  have e2 : IntKind.u8.max = 255 := by decide
  simp [Lit.wf, e1, e2] at h
  exact ⟨a.toNat, by omega, by omega⟩
theorem u32_nat {a : Int} (h : (Lit.int .u32 a).wf = true) : ∃ n : Nat, a = (n : Int) ∧ n < 4294967296 := by
  have e1 : IntKind.u32.min = 0 := by decide
  have e2 : IntKind.u32.max = 4294967295 := by decide
  simp [Lit.wf, e1, e2] at h
  exact ⟨a.toNat, by omega, by omega⟩
end Go.Proofs.Ytcfoieaejpdleaa
