import Derived.Test.YtcffebkebldjcaaMa
import Derived.Test.YtcffebkebldjcaaEj
import Derived.Test.YtcffebkebldjcaaEk
import Derived.Test.YtcffebkebldjcaaOj
import Derived.Test.YtcffebkebldjcaaPb
import Derived.Test.YtcffebkebldjcaaEm
import Derived.Deep.RegionHeld3
import Derived.Deep.RegionWith
import Derived.Deep.MidRow
import Derived.Deep.Cut
import Derived.Test.YtcffebkebldjcaaEn
namespace Go.Proofs.Ytcffebkebldjcaa
section
open Go Go.RowKit
set_option linter.unusedVariables false
set_option linter.unusedSimpArgs false

theorem rput_ownM (v : Value) (l : List Int) (n s : Int) (w : World) (hB : Bytes w v l) (hl : l.length ≤ 1000) (hr : rightB n s = true) (hs : isB (spl n s)) :
    Calls Try.prog 35 #[v, .int .i64 n, .int .i64 s] w fun e w' => ∃ r, e = .returned r ∧ OwnB w' w.heap.size r (l ++ spl n s) ∧ Below w.heap.size w w' :=
  (rput_any v l n s w hB (by omega) hr).mono fun e w' ⟨r, h1, h2, h3⟩ => ⟨r, h1, ⟨h2, by
    obtain ⟨_, _, _, _, _, hb, _⟩ := hB
    exact hb.app hs⟩, h3⟩
theorem OwnB.litM {w w' : World} {base n : Nat} {v v' : Value} {l m : List Int} (h : OwnB w base v l) (hm : isB m) (hn : l.length = n) (ho : w'.ownsRow base 5 1 v' (n + m.length) (u8s l ++ u8s m)) : OwnB w' base v' (l ++ m) := by
  subst hn
  exact h.grow hm ho
theorem own_empty (w : World) (base : Nat) (h : base ≤ w.heap.size) : OwnB (w.alloc (.cells #[] 5)) base (.slice (some ⟨w.heap.size, 0, none⟩) 0 0) [] :=
  ⟨World.ownsRow_lit w #[] 0 h (Nat.zero_le _) rfl, fun z hz => by cases hz⟩
theorem roenc_yes (f : Int) (m : Bool) (a b c d : Nat) (w : World) (ha : a < 18446744073709551616) (hb : b < 18446744073709551616) (hc : c < 18446744073709551616) (hd : d < 18446744073709551616) (h : rgt f m a b c d = true) :
    Calls Try.prog 34 #[ov f m a b c d] w fun e w' => ∃ r, e = .returned (.tuple #[r, .int .i64 0]) ∧ Bytes w' r (encL f m a b c d) ∧ Below w.heap.size w w' := by
  cases m
  · exact roenc_yes0 f a b c d w ha hb hc hd h
  · exact roenc_yes1 f a b c d w ha hb hc hd h
theorem menc_listR (L : List O6) (n : Nat) (hn : 4 + (encs L).length = n) :
    ([] ++ spl 1 2 ++ spl (n : Int) 2 ++ encs L) ++ List.replicate (r8 n - n) 0 = mencL L := by
  subst hn
  unfold mencL
  simp

set_option maxRecDepth 100000 in
set_option maxHeartbeats 4000000 in
theorem renc_no1 (v : Value) (L : List O6) (w : World) (hL : OxAt w v L) (cc : Int) (hk : fo4 (mchk [] L) = .agg #[.bool true, .int .i64 4, .int .i64 cc]) :
    Calls Try.prog 10 #[v] w fun e w' => e = .returned (.tuple #[.slice none 0 0, .int .i64 1]) ∧ Below w.heap.size w w' := by
  have qk := rcheck_any v L w hL
  rw [hk] at qk
  have qk := hide_ qk
  have hf := fun x y z w => fldF x y z w
  clear hL hk
  go_enter Try.func10, Try.ntmps10
  go_wp2_with (go_at_call 13; refine qk.out.mono ?_; rintro e w1 ⟨rfl, b1⟩)
  go_ret2
  exact ⟨rfl, b1⟩

set_option maxRecDepth 100000 in
set_option maxHeartbeats 16000000 in
theorem renc_ok (v : Value) (L : List O6) (w : World) (hL : OxAt w v L) (hF : Fit L) (hln : L.length ≤ 100000) (hk : fo4 (mchk [] L) = .agg #[.bool false, .int .i64 0, .int .i64 0]) (hbig : L.any (fun t => !rgtO t) = false → (encs L).length ≤ 1000) :
    Calls Try.prog 10 #[v] w fun e w' => ((Hid (L.any (fun t => !rgtO t) = true) ∧ e = .returned (.tuple #[.slice none 0 0, .int .i64 1])) ∨ (Hid (L.any (fun t => !rgtO t) = false) ∧ ∃ r, e = .returned (.tuple #[r, .int .i64 0]) ∧ Bytes w' r (mencL L))) ∧ Below w.heap.size w w' := by
  have qk := rcheck_any v L w hL
  rw [hk] at qk
  have qk := hide_ qk
  have hf := fun x y z w => fldF x y z w
  have HF := hide_ hF
  obtain ⟨s, cap, rfl, h1, h2, h3, h4⟩ := hL
  have HC := hide_ h4
  have HBG := hide_ hbig
  clear hk hF h1 h2 h3 h4 hbig
  have p1 := hide_ (fun w => rput_ownM (.slice none 0 0) [] 1 2 w (Bytes.nil w) (by simp) (by decide) (isB_spl2 _))
  have p2 := hide_ (fun v (n : Nat) w hB (hn : n ≤ 1004) => rput_ownM v ([] ++ spl 1 2) (n : Int) 2 w hB (by simp [spl_len2]) (rightB_in2 (by omega) (by omega)) (isB_spl2 _))
  obtain ⟨i0, hi0, hz0, hz1, hz2⟩ := info_parts info5
  have HI : Hid (Try.prog.info? 5 = some i0 ∧ i0.zero = some (.int .u8 0) ∧ i0.size = 1 ∧ i0.bytes = 1) := ⟨hi0, hz0, hz1, hz2⟩
  clear hi0 hz0 hz1 hz2
  go_enter Try.func10, Try.ntmps10
  go_wp2_with (go_at_call 13; refine qk.out.mono ?_; rintro e w1 ⟨rfl, b1⟩)
  have OE := hide_ (own_empty w1 w.heap.size b1.size)
  have KE := hide_ (b1.trans ((below1 w1 (.cells #[] 5)).mono b1.size))
  generalize w1.alloc (.cells #[] 5) = V at *
  generalize w1.heap.size = g0 at *
  clear b1 qk
  go_loopw [4, 5] (fun b i wr => ∃ (k bg bc nk : Nat), k ≤ L.length ∧ i = .int .i64 k ∧ b = .slice (some ⟨bg, 0, none⟩) nk bc ∧ nk = (encs (L.take k)).length ∧ Hid (OwnB wr w.heap.size (.slice (some ⟨bg, 0, none⟩) nk bc) (encs (L.take k))) ∧ Hid ((L.take k).any (fun t => !rgtO t) = false) ∧ Hid (Below w.heap.size w wr)) (fun _ i _ => L.length - (intOf i).toNat)
  case atStart => exact ⟨0, g0, 0, 0, Nat.zero_le _, rfl, rfl, rfl, OE, rfl, KE⟩
  case round =>
    obtain ⟨k, bg, bc, nk, hkl, rfl, rfl, hnk, HOw, HAL, KB⟩ := hrel
    by_cases hlt : k < L.length
    · obtain ⟨⟨of, om, oa, ob, oc, od⟩, hz⟩ : ∃ z, L[k]? = some z := ⟨_, List.getElem?_eq_getElem hlt⟩
      obtain ⟨q, off, rfl, d0, d1, d2, d3, d4, d5⟩ := HC.out k of om oa ob oc od hz
      obtain ⟨r1', r2', r3', r4'⟩ := HF.out k of om oa ob oc od hz
      have d0 := cell_later KB.out d0
      have d1 := cell_later KB.out d1
      have d2 := cell_later KB.out d2
      have d3 := cell_later KB.out d3
      have d4 := cell_later KB.out d4
      have d5 := cell_later KB.out d5
      have htk : L.take (k + 1) = L.take k ++ [(of, om, oa, ob, oc, od)] := by rw [List.take_add_one, hz]; rfl
      have HZ := hide_ hz
      have hel := encO_le (of, om, oa, ob, oc, od)
      have hep := encO_pos (of, om, oa, ob, oc, od)
      have hb1 := encs_le (L.take k)
      have hb2 : (L.take k).length ≤ 100000 := by simp; omega
      have hlt' : (k : Int) < (L.length : Int) := by omega
      have hnb : nk ≤ 3600000 := by omega
      have HNK := hide_ hnk
      cases hr : rgt of om oa ob oc od
      · have qe := hide_ (fun w => roenc_no of om oa ob oc od w r1' r2' r3' r4' hr)
        unfold ov at qe
        have HN : Hid (L.any (fun t => !rgtO t) = true) := hide_ (by
          rw [List.any_eq_true]
          exact ⟨_, List.mem_of_getElem? hz, by simp [rgtO, hr]⟩)
        clear hz r1' r2' r3' r4' hnk htk hel hep hr
        go_wp2_with (go_at_call 34; refine (qe.out _).mono ?_; rintro e w5 ⟨rfl, b5⟩)
        go_ret2
        exact ⟨.inl ⟨HN, rfl⟩, KB.out.trans (b5.mono KB.out.size)⟩
      · have qe := hide_ (fun w => roenc_yes of om oa ob oc od w r1' r2' r3' r4' hr)
        unfold ov at qe
        have el : encL of om oa ob oc od = encO (of, om, oa, ob, oc, od) := rfl
        rw [el] at qe
        have HRR := hide_ hr
        clear hz el r1' r2' r3' r4' hnk hr
        obtain ⟨E, hEE⟩ : ∃ E, encO (of, om, oa, ob, oc, od) = E := ⟨_, rfl⟩
        rw [hEE] at qe hel hep
        have HEE := hide_ hEE
        clear hEE
        go_wp2_with (first | (go_at_call 34; refine (qe.out _).mono ?_; rintro e w5 ⟨r5, rfl, g5, b5⟩; have g5 := hide_ g5; have K5 := KB.out.trans (b5.mono KB.out.size); have O5 := hide_ (HOw.out.later b5)) | (at_builtin; refine wpList_append_ownB rfl (.tmp 29) (.tmp 30) 24 rfl w.heap.size 5 i0 Try.underlying24 HI.out.1 HI.out.2.1 HI.out.2.2.1 HI.out.2.2.2 (.slice (some ⟨bg, 0, none⟩) nk bc) nk (u8s (encs (L.take k))) (by simp [Act.eval, Act.put]) (by have := O5.out.1; rw [← HNK.out] at this; exact this) r5 E (by simp [Act.eval, Act.put]) g5.out (by omega) K5.size ?_; intro v6 w6 own6 hg6))
        obtain ⟨bg7, bc7, e7, O7, -, c7, -, b7⟩ := own_app (n := nk + E.length) (nn := w.heap.size) O5.out g5.out (by rw [← HNK.out]; exact own6) hg6 (by rw [← HNK.out]) (by omega) (Nat.le_refl _) K5.size
        subst e7
        have O7 := hide_ O7
        go_wp2
        go_roundw
        case rel =>
          refine ⟨k + 1, bg7, bc7, nk + E.length, by omega, by go_num, rfl, ?_, ?_, ?_, hide_ (K5.trans b7)⟩
          · have := HNK.out; rw [htk, encs_snoc, List.length_append, HEE.out]; omega
          · rw [htk, encs_snoc, HEE.out]; exact O7
          · show _ = _; rw [htk, List.any_append, HAL.out]; simp [rgtO, HRR.out]
        case measure => simp [intOf]; omega
    · have hke : k = L.length := by omega
      have hlt' : ¬ (k : Int) < (L.length : Int) := by omega
      rw [List.take_of_length_le (by omega)] at hnk HOw HAL
      have hbg := HBG.out HAL.out
      have g14 : ¬ (1000 : Int) < (nk : Int) := by omega
      obtain ⟨n, hn⟩ : ∃ n, 4 + (encs L).length = n := ⟨_, rfl⟩
      have hnn : n = 4 + nk := by omega
      have hwr : IntKind.i64.wrap (4 + (nk : Int)) = (n : Int) := by rw [IntKind.wrap_i64]; omega
      have HLL := hide_ (menc_listR L n hn)
      have hr1 := r8_ge n
      have hr2 := r8_le n
      have hr5 : ∀ j, j ≤ r8 n - n → ((n + j) % 8 = 0 ↔ j = r8 n - n) := by intro j hj; unfold r8 at *; omega
      have p2' := hide_ (fun v w hB => p2.out v n w hB (by omega))
      have hL0 : ([] ++ spl 1 2 ++ spl (n : Int) 2).length = 4 := by simp [spl_len2]
      have hEl : (encs L).length = nk := hnk.symm
      have HBy := hide_ HOw.out.bytes
      generalize [] ++ spl 1 2 ++ spl (n : Int) 2 = L0 at *
      generalize [] ++ spl 1 2 = L1 at *
      generalize r8 n = n6 at *
      generalize encs L = E at *
      have HNN := hide_ hnn
      have HEl := hide_ hEl
      have hn4 : 4 ≤ n ∧ n ≤ 1004 := by omega
      have hnk1 : nk ≤ 1000 := by omega
      clear HBG p2 hn hke hnk HC HF hnn hEl hbg
      go_wp2_with (first | (go_at_call_of 35 (Value.slice none 0 0); refine (p1.out _).mono ?_; rintro e w3 ⟨r1, rfl, g1, b3⟩; have k3 := KB.out.trans (b3.mono KB.out.size); have g1 := hide_ g1.bytes; have HB3 := hide_ (HBy.out.later b3)) | (go_at_call 35; refine (p2'.out _ _ g1.out).mono ?_; rintro e w4 ⟨r2, rfl, g2, b4⟩; have k4 := k3.trans (b4.mono k3.size); have g2 := hide_ (g2.mono k3.size); have HB4 := hide_ (HB3.out.later b4)) | (at_builtin; refine wpList_append_ownB rfl (.tmp 39) (.tmp 40) 24 rfl w.heap.size 5 i0 Try.underlying24 HI.out.1 HI.out.2.1 HI.out.2.2.1 HI.out.2.2.2 r2 4 (u8s L0) (by simp [Act.eval, Act.put]) (by have := g2.out.1; rw [hL0] at this; exact this) (.slice (some ⟨bg, 0, none⟩) nk bc) E (by simp [Act.eval, Act.put]) HB4.out (by rw [HEl.out]; omega) k4.size ?_; intro v6 w6 own6 hg6))
      obtain ⟨bg7, bc7, e7, O7, -, c7, -, b7⟩ := own_app (n := n) (nn := w.heap.size) g2.out HB4.out (by rw [hL0]; exact own6) hg6 (by rw [hL0, HEl.out, HNN.out]) (by omega) (Nat.le_refl _) k4.size
      subst e7
      have O7 := hide_ O7
      have K7 := hide_ (k4.trans b7)
      have hfl : (L0 ++ E).length = n := by rw [List.length_append, hL0, HEl.out, HNN.out]
      clear own6 hg6 g1 g2 HBy HB3 HB4 b7 k3 k4 HOw p1 p2'
      generalize L0 ++ E = LE at *
      go_wp2
      go_loopw [8] (fun u wr => ∃ (j : Nat) (bg bc : Nat), j ≤ n6 - n ∧ u = .slice (some ⟨bg, 0, none⟩) (n + j) bc ∧ Hid (OwnB wr w.heap.size (.slice (some ⟨bg, 0, none⟩) (n + j) bc) (LE ++ List.replicate j 0)) ∧ Hid (Below w.heap.size w wr)) (fun u _ => n6 - slen2 u)
      case atStart =>
        refine ⟨0, bg7, bc7, Nat.zero_le _, rfl, ?_, K7⟩
        simpa using O7
      case round =>
        obtain ⟨j, bg, bc, hj, rfl, O, KB⟩ := hrel
        have hlj : (LE ++ List.replicate j (0 : Int)).length = n + j := by rw [List.length_append, List.length_replicate]; omega
        have hm1 : Int.tmod ((n + j : Nat) : Int) 8 = (((n + j) % 8 : Nat) : Int) := by rw [Int.tmod_eq_emod_of_nonneg (by omega)]; omega
        have hj5 := hr5 j hj
        by_cases hje : j = n6 - n
        · have hc : (n + j) % 8 = 0 := hj5.2 hje
          have hm2 : Int.tmod ((n + j : Nat) : Int) 8 = 0 := by rw [hm1, hc]; rfl
          have HJE := hide_ hje
          clear hj5 hm1 hr5 hje hc
          generalize hnj : n + j = nj at *
          go_wp2
          go_ret2
          refine ⟨.inr ⟨HAL, _, rfl, ?_⟩, KB.out⟩
          rw [← HLL.out, ← HJE.out]
          exact O.out.bytes
        · have hc : ¬ (n + j) % 8 = 0 := fun h => hje (hj5.1 h)
          have hm2 : (Int.tmod ((n + j : Nat) : Int) 8 == 0) = false := by rw [hm1]; simp; omega
          have hm3 : ¬ Int.tmod ((n + j : Nat) : Int) 8 = 0 := by rw [hm1]; omega
          have hsz := KB.out.size
          go_wp2_with (at_builtin; refine wpList_append_lit (.tmp 46) (.tmp 47) 24 rfl 5 i0 Try.underlying24 HI.out.1 HI.out.2.1 HI.out.2.2.1 HI.out.2.2.2 w.heap.size (.slice (some ⟨bg, 0, none⟩) (n + j) bc) (n + j) (u8s (LE ++ List.replicate j 0)) (by simp [Act.eval, Act.put]) wr (by have := O.out.1; rw [hlj] at this; exact this) [0] _ rfl 1 rfl (by simp [Act.eval, Act.put]) (by simp [Region.wanted]) (by simp; omega) hsz ?_; intro v3 w3 own3 b3)
          have O3 := hide_ (O.out.litM (isB_zeros 1) hlj own3 : OwnB w3 w.heap.size v3 (LE ++ List.replicate j 0 ++ [0]))
          obtain ⟨bg3, bc3, e4, -⟩ := O3.out.form (by simp; try omega)
          have e3 : v3 = .slice (some ⟨bg3, 0, none⟩) (n + (j + 1)) bc3 := by rw [e4]; congr 1; rw [List.length_append, hlj]; simp; omega
          clear e4
          subst e3
          clear own3 O
          go_wp2
          go_roundw
          case rel =>
            refine ⟨j + 1, bg3, bc3, by omega, rfl, ?_, hide_ (KB.out.trans b3)⟩
            have e4 : LE ++ List.replicate (j + 1) (0 : Int) = LE ++ List.replicate j 0 ++ [0] := by rw [List.append_assoc, ← List.replicate_succ']
            rw [e4]
            exact O3
          case measure => simp [slen2]; omega
end

section
open Go Go.RowKit
set_option linter.unusedVariables false
set_option linter.unusedSimpArgs false

set_option maxRecDepth 100000 in
set_option maxHeartbeats 4000000 in
theorem me_gen (s : Option Addr) (sc : Nat) (L : List O6) (s2 : Option Addr) (sc2 : Nat) (K : List O6) (B : List Int) (er : Int) (fx : Bool) (ft fc : Int) (z : Bool) (w : World) (g1 : ¬ (60 : Int) < (L.length : Int)) (g2 : ¬ (60 : Int) < (K.length : Int))
    (q1 : ∀ W, Below w.heap.size w W → Calls Try.prog 9 #[.slice s L.length sc] W fun e w' => (∃ r, e = .returned (.tuple #[r, .int .i64 er]) ∧ Bytes w' r B) ∧ Below W.heap.size W w')
    (q2 : ∀ W, Below w.heap.size w W → Calls Try.prog 10 #[.slice s L.length sc] W fun e w' => (∃ r, e = .returned (.tuple #[r, .int .i64 er]) ∧ Bytes w' r B) ∧ Below W.heap.size W w')
    (q3 : ∀ W, Below w.heap.size w W → Calls Try.prog 12 #[.slice s L.length sc] W fun e w' => e = .returned (.agg #[.bool fx, .int .i64 ft, .int .i64 fc]) ∧ Below W.heap.size W w')
    (q4 : ∀ W, Below w.heap.size w W → Calls Try.prog 13 #[.slice s L.length sc] W fun e w' => e = .returned (.agg #[.bool fx, .int .i64 ft, .int .i64 fc]) ∧ Below W.heap.size W w')
    (q5 : ∀ W, Below w.heap.size w W → Calls Try.prog 14 #[.slice s L.length sc, .slice s2 K.length sc2] W fun e w' => e = .returned (.bool z) ∧ Below W.heap.size W w')
    (q6 : ∀ W, Below w.heap.size w W → Calls Try.prog 15 #[.slice s L.length sc, .slice s2 K.length sc2] W fun e w' => e = .returned (.bool z) ∧ Below W.heap.size W w') :
    Calls Try.prog 3 #[.slice s L.length sc, .slice s2 K.length sc2] w fun e w' => e = .returned (.bool true) ∧ Below w.heap.size w w' := by
  have aw := hide_ (fun w => awake11_any w)
  have q1 := hide_ q1
  have q2 := hide_ q2
  have q3 := hide_ q3
  have q4 := hide_ q4
  have q5 := hide_ q5
  have q6 := hide_ q6
  have k0 : Below w.heap.size w w := Below.refl _ _
  have heq : (er == er) = true := by simp
  go_enter Try.func3, Try.ntmps3
  go_wp2_with (first | (go_at_call 9; refine (q1.out _ k0).mono ?_; rintro e w1 ⟨⟨r1, rfl, h1⟩, k1⟩; have h1 := hide_ h1) | (go_at_call 10; refine (q2.out _ k1).mono ?_; rintro e w2 ⟨⟨r2, rfl, h2⟩, b2⟩; have k2 := k1.trans (b2.mono k1.size); have qe := equal_any r1 r2 B B w2 (h1.out.later b2) h2; rw [beq_self_eq_true] at qe; have qe := hide_ qe; clear h2) | (go_at_call 11; refine qe.out.mono ?_; rintro e w3 ⟨rfl, b3⟩; have k3 := k2.trans (b3.mono k2.size)) | (go_at_call 12; refine (q3.out _ k3).mono ?_; rintro e w4 ⟨rfl, b4⟩; have k4 := k3.trans (b4.mono k3.size)) | (go_at_call 13; refine (q4.out _ k4).mono ?_; rintro e w5 ⟨rfl, b5⟩; have k5 := k4.trans (b5.mono k4.size)) | (go_at_call 14; refine (q5.out _ k5).mono ?_; rintro e w6 ⟨rfl, b6⟩; have k6 := k5.trans (b6.mono k5.size)) | (go_at_call 15; refine (q6.out _ k6).mono ?_; rintro e w7 ⟨rfl, b7⟩; have k7 := k6.trans (b7.mono k6.size)) | (go_at_call 8; refine (aw.out _).mono ?_; rintro e w8 ⟨rfl, b8⟩))
  go_ret
  exact ⟨by first | rfl | simp, k7.trans (b8.mono k7.size)⟩

set_option maxRecDepth 100000 in
set_option maxHeartbeats 4000000 in
theorem me_big (s : Option Addr) (sc n : Nat) (s2 : Option Addr) (sc2 m : Nat) (w : World) (h : (60 : Int) < (n : Int) ∨ ((¬ (60 : Int) < (n : Int)) ∧ (60 : Int) < (m : Int))) :
    Calls Try.prog 3 #[.slice s n sc, .slice s2 m sc2] w fun e w' => e = .returned (.bool true) ∧ Below w.heap.size w w' := by
  have aw := hide_ (fun w => awake11_any w)
  rcases h with h | ⟨h, h2⟩
  · skip
    go_enter Try.func3, Try.ntmps3
    go_wp2_with (go_at_call 8; refine (aw.out _).mono ?_; rintro e w3 ⟨rfl, b3⟩)
    go_ret
    exact ⟨rfl, b3⟩
  · skip
    go_enter Try.func3, Try.ntmps3
    go_wp2_with (go_at_call 8; refine (aw.out _).mono ?_; rintro e w3 ⟨rfl, b3⟩)
    go_ret
    exact ⟨rfl, b3⟩

theorem matchEncodes_walk (v u : Value) (L K : List O6) (w : World) (hL : OxAt w v L) (hF : Fit L) (hK : OxAt w u K) :
    Calls Try.prog 3 #[v, u] w fun e w' => e = .returned (.bool true) ∧ Below w.heap.size w w' := by
  obtain ⟨s, sc, rfl, hl⟩ := hL
  have hL : OxAt w (.slice s L.length sc) L := ⟨s, sc, rfl, hl⟩
  obtain ⟨s2, sc2, rfl, hl2⟩ := hK
  have hK : OxAt w (.slice s2 K.length sc2) K := ⟨s2, sc2, rfl, hl2⟩
  by_cases g1 : (60 : Int) < (L.length : Int)
  · exact me_big s sc L.length s2 sc2 K.length w (.inl g1)
  by_cases g2 : (60 : Int) < (K.length : Int)
  · exact me_big s sc L.length s2 sc2 K.length w (.inr ⟨g1, g2⟩)
  have q3 := fun W hW => mcheck_any _ L W (hL.later (w' := W) hW)
  have q4 := fun W hW => rcheck_any _ L W (hL.later (w' := W) hW)
  have q5 := fun W hW => msame_any _ _ L K W (hL.later (w' := W) hW) (hK.later hW)
  have q6 := fun W hW => rsame_any _ _ L K W (hL.later (w' := W) hW) (hK.later hW)
  have nn : ∀ {w' : World} {e : Ending}, e = .returned (.tuple #[.slice none 0 0, .int .i64 1]) → ∃ r, e = .returned (.tuple #[r, .int .i64 1]) ∧ Bytes w' r [] := fun h => ⟨_, h, Bytes.nil _⟩
  cases hc : mchk [] L with
  | some z =>
    rw [hc] at q3 q4
    refine me_gen s sc L s2 sc2 K [] 1 true 4 z _ w g1 g2 (fun W hW => ?_) (fun W hW => ?_) q3 q4 q5 q6
    · cases hr : L.any (fun t => !rgtO t)
      · exact (menc_no2 _ L W (hL.later hW) hF z hr (by rw [hc]; rfl)).mono fun e w' h => ⟨nn h.1, h.2⟩
      · exact (menc_no1 _ L W (hL.later hW) hF hr).mono fun e w' h => ⟨nn h.1, h.2⟩
    · exact (renc_no1 _ L W (hL.later hW) z (by rw [hc]; rfl)).mono fun e w' h => ⟨nn h.1, h.2⟩
  | none =>
    rw [hc] at q3 q4
    have hck : fo4 (mchk [] L) = .agg #[.bool false, .int .i64 0, .int .i64 0] := by rw [hc]; rfl
    have q2 := fun W hW => renc_ok _ L W (hL.later (w' := W) hW) hF (by omega) hck (fun h => (encs_small h hc).1)
    cases hr : L.any (fun t => !rgtO t)
    · rw [hr] at q2
      obtain ⟨hsm, h24⟩ := encs_small hr hc
      refine me_gen s sc L s2 sc2 K (mencL L) 0 false 0 0 _ w g1 g2 (fun W hW => menc_yes _ L W (hL.later hW) hF (by omega) hr hck hsm) (fun W hW => ?_) q3 q4 q5 q6
      refine (q2 W hW).mono ?_
      rintro e w' ⟨⟨h, -⟩ | ⟨-, h⟩, b⟩
      · cases h
      · exact ⟨h, b⟩
    · rw [hr] at q2
      refine me_gen s sc L s2 sc2 K [] 1 false 0 0 _ w g1 g2 (fun W hW => (menc_no1 _ L W (hL.later hW) hF hr).mono fun e w' h => ⟨nn h.1, h.2⟩) (fun W hW => ?_) q3 q4 q5 q6
      refine (q2 W hW).mono ?_
      rintro e w' ⟨⟨-, h⟩ | ⟨h, -⟩, b⟩
      · exact ⟨nn h, b⟩
      · cases h
end

end Go.Proofs.Ytcffebkebldjcaa
