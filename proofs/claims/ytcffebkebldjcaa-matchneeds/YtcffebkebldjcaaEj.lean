import Derived.Test.YtcffebkebldjcaaEi
import Derived.Test.YtcffebkebldjcaaEf
import Derived.Deep.RegionHeld3
import Derived.Deep.RegionWith
import Derived.Deep.MidRow
import Derived.Deep.Cut
namespace Go.Proofs.Ytcffebkebldjcaa
open Go Go.RowKit
set_option linter.unusedVariables false
set_option linter.unusedSimpArgs false

theorem menc_list (L : List O6) (n : Nat) (hn : 4 + (encs L).length = n) :
    ((([] ++ spl 1 2 ++ spl 0 2 ++ encs L).take 2 ++ ([] ++ spl (n : Int) 2) ++ ([] ++ spl 1 2 ++ spl 0 2 ++ encs L).drop 4) ++ List.replicate (r8 n - n) 0) = mencL L := by
  subst hn
  unfold mencL
  generalize encs L = B
  generalize r8 (4 + B.length) = r
  simp [spl]

set_option maxRecDepth 100000 in
set_option maxHeartbeats 8000000 in
theorem menc_yes (v : Value) (L : List O6) (w : World) (hL : OxAt w v L) (hF : Fit L) (hln : L.length ≤ 100000) (h : L.any (fun t => !rgtO t) = false) (hk : fo4 (mchk [] L) = .agg #[.bool false, .int .i64 0, .int .i64 0]) (hbig : (encs L).length ≤ 1000) :
    Calls Try.prog 9 #[v] w fun e w' => (∃ r, e = .returned (.tuple #[r, .int .i64 0]) ∧ Bytes w' r (mencL L)) ∧ Below w.heap.size w w' := by
  have qc := econt_any v L w hL hF
  have qk := fun W hW => mcheck_any v L W (hL.later (w' := W) hW)
  have hf := fun x y z w => fldF x y z w
  have hall : ∀ (i : Nat) (f : Int) (m : Bool) (a b c d : Nat), L[i]? = some (f, m, a, b, c, d) → rgt f m a b c d = true := by
    intro i f m a b c d hi
    rw [List.any_eq_false] at h
    have := h _ (List.mem_of_getElem? hi)
    simpa [rgtO] using this
  rw [h] at qc
  rw [hk] at qk
  have qc := hide_ qc
  have qk := hide_ qk
  have HA := hide_ hall
  have HF := hide_ hF
  obtain ⟨s, cap, rfl, h1, h2, h3, h4⟩ := hL
  have HC := hide_ h4
  clear h hk hF hall h1 h2 h3 h4
  have p1 := hide_ (fun w => nput_any (.slice none 0 0) [] 1 2 w (Bytes.nil w) (by simp) (by decide) (isB_spl2 _))
  have p2 := hide_ (fun v w hB => put_own v ([] ++ spl 1 2) 0 2 w hB (by simp [spl_len2]) (by decide) (isB_spl2 _))
  obtain ⟨n, hn⟩ : ∃ n, 4 + (encs L).length = n := ⟨_, rfl⟩
  have HLL := hide_ (menc_list L n hn)
  have p3 := hide_ (fun w => nput_any (.slice none 0 0) [] (n : Int) 2 w (Bytes.nil w) (by simp) (rightB_in2 (by omega) (by omega)) (isB_spl2 _))
  have hM6 : ([] ++ spl (n : Int) 2).length = 2 := by simp [spl_len2]
  have hL0 : ([] ++ spl 1 2 ++ spl 0 2).length = 4 := by simp [spl_len2]
  have hr1 := r8_ge n
  have hr2 := r8_le n
  have qr := hide_ (fun w => mround_any n w (by omega))
  generalize [] ++ spl (n : Int) 2 = M6 at *
  generalize r8 n = n6 at *
  have hsub : IntKind.i64.wrap ((n6 : Int) - (n : Int)) = ((n6 - n : Nat) : Int) := by rw [IntKind.wrap_i64]; omega
  generalize [] ++ spl 1 2 ++ spl 0 2 = L0 at *
  generalize [] ++ spl 1 2 = L1 at *
  generalize mencL L = LL at *
  obtain ⟨i0, hi0, hz0, hz1, hz2⟩ := info_parts info5
  have hsz5 : (Try.prog.info? 5).map (·.size) = some 1 := by rw [hi0]; exact congrArg some hz1
  have HI : Hid (Try.prog.info? 5 = some i0 ∧ i0.zero = some (.int .u8 0) ∧ i0.size = 1 ∧ i0.bytes = 1) := ⟨hi0, hz0, hz1, hz2⟩
  clear hi0 hz0 hz1 hz2
  go_enter Try.func9, Try.ntmps9
  go_wp2_with (first | (go_at_call 23; refine qc.out.mono ?_; rintro e w1 ⟨rfl, b1⟩) | (go_at_call 12; refine (qk.out _ b1).mono ?_; rintro e w2 ⟨rfl, b2⟩; have k2 := b1.trans (b2.mono b1.size)) | (go_at_call_of 31 (Value.slice none 0 0); refine (p1.out _).mono ?_; rintro e w3 ⟨r1, rfl, g1, b3⟩; have k3 := k2.trans (b3.mono k2.size); have g1 := hide_ g1) | (go_at_call 31; refine (p2.out _ _ g1.out).mono ?_; rintro e w4 ⟨r2, rfl, g2, b4⟩; have k4 := k3.trans (b4.mono k3.size); have g2 := hide_ (g2.mono k3.size)))
  go_loopw [5, 23] (fun b i wr => ∃ (k bg bc nk : Nat), k ≤ L.length ∧ i = .int .i64 k ∧ b = .slice (some ⟨bg, 0, none⟩) nk bc ∧ nk = 4 + (encs (L.take k)).length ∧ Hid (OwnB wr w.heap.size (.slice (some ⟨bg, 0, none⟩) nk bc) (L0 ++ encs (L.take k))) ∧ nk ≤ bc ∧ Hid (Below w.heap.size w wr)) (fun _ i _ => L.length - (intOf i).toNat)
  case atStart =>
    obtain ⟨bg1, bc1, e1, -, -, hcap, -⟩ := g2.out.form (by omega)
    rw [hL0] at e1 hcap
    refine ⟨0, bg1, bc1, 4, Nat.zero_le _, rfl, by first | exact e1 | (rw [← e1]), by simp [encs], ?_, hcap, hide_ k4⟩
    have := g2.out
    rw [e1] at this
    have e2 : L0 ++ encs (L.take 0) = L0 := by simp [encs]
    rw [e2]
    exact hide_ this
  case round =>
    obtain ⟨k, bg, bc, nk, hkl, rfl, rfl, hnk, HOw, hcap, KB⟩ := hrel
    by_cases hlt : k < L.length
    · obtain ⟨⟨of, om, oa, ob, oc, od⟩, hz⟩ : ∃ z, L[k]? = some z := ⟨_, List.getElem?_eq_getElem hlt⟩
      obtain ⟨q, off, rfl, d0, d1, d2, d3, d4, d5⟩ := HC.out k of om oa ob oc od hz
      obtain ⟨r1', r2', r3', r4'⟩ := HF.out k of om oa ob oc od hz
      have d0 := cell_later KB.out d0
      have d1 := cell_later KB.out d1
      have d2 := cell_later KB.out d2
      have d3 := cell_later KB.out d3
      have d4 := cell_later KB.out d4
      have d5 := cell_later KB.out d5
      have qe := hide_ (fun w => enc_yes of om oa ob oc od r1' r2' r3' r4' (HA.out k of om oa ob oc od hz) w)
      unfold ov at qe
      have el : encL of om oa ob oc od = encO (of, om, oa, ob, oc, od) := rfl
      rw [el] at qe
      have htk : L.take (k + 1) = L.take k ++ [(of, om, oa, ob, oc, od)] := by rw [List.take_add_one, hz]; rfl
      have hel := encO_le (of, om, oa, ob, oc, od)
      have hb1 := encs_le (L.take k)
      have hb2 : (L.take k).length ≤ 100000 := by simp; omega
      have hlt' : (k : Int) < (L.length : Int) := by omega
      have BO := hide_ (below1 wr (.cells #[.int .i64 of, .bool om, .int .u64 (oa : Int), .int .u64 (ob : Int), .int .u64 (oc : Int), .int .u64 (od : Int)] 51))
      have hE : (L0 ++ encs (L.take k)).length = nk := by rw [List.length_append]; omega
      have hnb : 4 ≤ nk ∧ nk ≤ 3600004 := by omega
      have HNK := hide_ hnk
      clear hz el r1' r2' r3' r4' hnk
      obtain ⟨E, hEE⟩ : ∃ E, encO (of, om, oa, ob, oc, od) = E := ⟨_, rfl⟩
      rw [hEE] at qe hel
      have HEE := hide_ hEE
      clear hEE
      go_wp2_with (first | (go_at_call 32; refine (qe.out _).mono ?_; rintro e w5 ⟨r5, rfl, g5, b5⟩; have j5 := BO.out.trans (b5.mono BO.out.size); have g5 := hide_ g5; have K5 := KB.out.trans (j5.mono KB.out.size); have O5 := hide_ (HOw.out.later j5)) | (at_builtin; refine wpList_append_ownB rfl (.tmp 32) (.tmp 33) 24 rfl w.heap.size 5 i0 Try.underlying24 HI.out.1 HI.out.2.1 HI.out.2.2.1 HI.out.2.2.2 (.slice (some ⟨bg, 0, none⟩) nk bc) nk (u8s (L0 ++ encs (L.take k))) (by simp [Act.eval, Act.put]) (by have := O5.out.1; rw [hE] at this; exact this) r5 E (by simp [Act.eval, Act.put]) g5.out (by omega) K5.size ?_; intro v6 w6 own6 hg6))
      obtain ⟨bg7, bc7, e7, O7, -, c7, -, b7⟩ := own_app (n := nk + E.length) (nn := w.heap.size) O5.out g5.out (by rw [hE]; exact own6) hg6 (by rw [hE]) (by omega) (Nat.le_refl _) K5.size
      subst e7
      have O7 := hide_ O7
      go_wp2
      go_roundw
      case rel =>
        refine ⟨k + 1, bg7, bc7, nk + E.length, by omega, by go_num, rfl, ?_, ?_, c7, hide_ (K5.trans b7)⟩
        · have := HNK.out; rw [htk, encs_snoc, List.length_append, HEE.out]; omega
        · rw [htk, encs_snoc, HEE.out, ← List.append_assoc]; exact O7
      case measure => simp [intOf]; omega
    · have hke : k = L.length := by omega
      have hlt' : ¬ (k : Int) < (L.length : Int) := by omega
      rw [List.take_of_length_le (by omega)] at hnk HOw
      have hnn : nk = n := by omega
      subst hnn
      have hn4 : 4 ≤ nk := by omega
      have hnb : nk ≤ 1004 := by omega
      clear hn
      have g14 : ¬ (1004 : Int) < (nk : Int) := by omega
      have hsl := fun wx => slice2 bg nk bc hn4 hcap wx
      have HLF : Hid ((L0 ++ encs L).length = nk) := hide_ (by rw [List.length_append]; omega)
      have HLC : Hid (((L0 ++ encs L).take 2 ++ M6 ++ (L0 ++ encs L).drop 4).length = nk) := hide_ (by simp only [List.length_append, List.length_take, List.length_drop]; omega)
      generalize L0 ++ encs L = LF at *
      clear hnk hke hbig
      go_wp2_with fail
      refine wp_region_held_drew (S := (fun w' => Below w.heap.size w w')) (by kernel_rfl) (KB.out.drew) (fun hHeld => ?_)
      have OD := hide_ (HOw.out.later ((Below.refl _ _).drew : Below wr.heap.size wr wr.drew))
      generalize wr.drew = D at *
      refine takeR (i := 0) (v := ?_) rfl (by kernel_rfl) (by kernel_rfl) (by kernel_rfl) (some 39) rfl (Or.inl ⟨by rfl, ?_⟩) (fun _ _ _ h => h) (by assumption) ?_
      rotate_left
      · intro w hSw; (try dsimp only at hSw); go_simp; (try with_reducible rfl)
      simp only [Act.put, List.setIfInBounds_toArray, List.set_cons_zero, List.set_cons_succ]
      refine takeR (i := 1) (v := ?_) rfl (by kernel_rfl) (by kernel_rfl) (by kernel_rfl) (some 40) rfl (Or.inl ⟨by rfl, ?_⟩) (fun _ _ _ h => h) (by assumption) ?_
      rotate_left
      · intro w hSw; (try dsimp only at hSw); go_simp; (try with_reducible rfl)
      simp only [Act.put, List.setIfInBounds_toArray, List.set_cons_zero, List.set_cons_succ]
      refine takeR (i := 2) (v := ?_) rfl (by kernel_rfl) (by kernel_rfl) (by kernel_rfl) (some 41) rfl (Or.inl ⟨by rfl, ?_⟩) (fun _ _ _ h => h) (by assumption) ?_
      rotate_left
      · intro w hSw; (try dsimp only at hSw); go_simp; (try with_reducible rfl)
      simp only [Act.put, List.setIfInBounds_toArray, List.set_cons_zero, List.set_cons_succ]
      refine takeR (i := 3) (v := ?_) rfl (by kernel_rfl) (by kernel_rfl) (by kernel_rfl) (some 42) rfl (Or.inl ⟨by rfl, ?_⟩) (fun _ _ _ h => h) (by assumption) ?_
      rotate_left
      · intro w hSw; (try dsimp only at hSw); go_simp; (try with_reducible rfl)
      simp only [Act.put, List.setIfInBounds_toArray, List.set_cons_zero, List.set_cons_succ]
      refine wpAnyH_ready (rs := [4]) (by kernel_rfl) (by simp) ?_
      refine AllReadyH.cons rfl (fun K hK => ?_) (AllReadyH.nil)
      go_simp
      refine (p3.out _).mono ?_
      rintro e w8 ⟨rv, rfl, h8, b8⟩
      have O8 := hide_ (OD.out.later b8)
      refine hK.out _ _ (hHeld.trans (b8.mono hHeld.size)) (fun hHeld => ?_)
      clear hK K
      try simp only [Act.put, List.setIfInBounds_toArray, List.set_cons_zero, List.set_cons_succ]
      refine wpAnyH_ready (rs := [5]) (by kernel_rfl) (by simp) ?_
      refine AllReadyH.cons rfl (fun K hK => ?_) (AllReadyH.nil)
      refine step_copy_ownB rfl (.tmp 40) (.tmp 43) 24 rfl Try.underlying24 hsz5 w.heap.size bg bc LF M6 rv (bc - 2) (by rw [HLF.out]; first | rfl | simp [Act.eval, Act.put]) (by first | rfl | simp [Act.eval, Act.put]) h8 hM6 (by rw [HLF.out]; exact O8.out) (by rw [HLF.out]; exact hn4) ?_
      intro w9 O9 b9
      rw [HLF.out] at O9
      refine hK.out _ _ (hHeld.trans b9) (fun hHeld => ?_)
      clear hK K
      try simp only [Act.put, List.setIfInBounds_toArray, List.set_cons_zero, List.set_cons_succ]
      refine wpAnyH_done (by kernel_rfl) ?_ _
      have O9 := hide_ O9
      go_wp2_with (first | (go_at_call 33; refine (qr.out _).mono ?_; rintro e w' ⟨rfl, rfl⟩) | (at_builtin; refine wpList_append_zerosB rfl (.tmp 45) (.tmp 51) 24 3 rfl w.heap.size 5 i0 Try.underlying24 Try.underlying3 HI.out.1 HI.out.2.1 HI.out.2.2.1 HI.out.2.2.2 (.slice (some ⟨bg, 0, none⟩) nk bc) nk (LF.take 2 ++ M6 ++ LF.drop 4) (by simp [Act.eval, Act.put]) (by have := O9.out.1; rw [HLC.out] at this; exact this) (by omega) (n6 - nk) (by simp [Act.eval, Act.put]) (by omega) hHeld.size ?_; intro v6 w6 own6 hg6; obtain ⟨g6, cap6, rfl, O6', c1, c2, c3, b6⟩ := own_zeros (k := n6) (nn := w.heap.size) O9.out HLC.out own6 hg6 (by omega) (by omega) (Nat.le_refl _) hHeld.size; have O6' := hide_ O6'))
      go_ret2
      refine ⟨⟨_, rfl, ?_⟩, hHeld.trans b6⟩
      rw [← HLL.out]
      exact O6'.out.bytes


end Go.Proofs.Ytcffebkebldjcaa
