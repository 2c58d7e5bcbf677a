import Derived.Test.YtcffebkebldjcaaEc
import Derived.Deep.RegionHeld3
import Derived.Deep.RegionWith
import Derived.Deep.MidRow
import Derived.Deep.Cut
namespace Go.Proofs.Ytcffebkebldjcaa
open Go Go.RowKit
set_option linter.unusedVariables false
set_option linter.unusedSimpArgs false

set_option maxRecDepth 100000 in
set_option maxHeartbeats 8000000 in
theorem mcheck_any (v : Value) (L : List O6) (w : World) (hL : OxAt w v L) :
    Calls Try.prog 12 #[v] w fun e w' => e = .returned (fo4 (mchk [] L)) ∧ Below w.heap.size w w' := by
  obtain ⟨s, cap, rfl, h1, h2, h3, h4⟩ := hL
  have HL : Hid (OxAt w (.slice s L.length cap) L) := hide_ ⟨s, cap, rfl, h1, h2, h3, h4⟩
  have HC := hide_ h4
  have hm : L.length ≤ 9223372036854775807 := by unfold maxLen at h2; omega
  clear h1 h2 h3 h4
  have F0 := hide_ (AB.at0 w 30 [.bool false, .int .i64 0, .int .i64 0])
  have B0 := hide_ (below1 w (.cells #[.bool false, .int .i64 0, .int .i64 0] 30))
  have qr := hide_ (fun k w => mrefuse_any k w)
  obtain ⟨R, hR⟩ : ∃ R, mchk [] L = R := ⟨_, rfl⟩
  rw [hR]
  have HR : Hid (mchk (L.take 0) (L.drop 0) = R) := hide_ hR
  clear hR
  go_enter Try.func12, Try.ntmps12
  go_wp2
  go_loopw [7] (fun i wr => ∃ k : Nat, k ≤ L.length ∧ i = .int .i64 k ∧ Hid (mchk (L.take k) (L.drop k) = R) ∧ Hid (Below (w.alloc (.cells #[.bool false, .int .i64 0, .int .i64 0] 30)).heap.size (w.alloc (.cells #[.bool false, .int .i64 0, .int .i64 0] 30)) wr)) (fun i _ => L.length - (intOf i).toNat)
  case atStart => exact ⟨0, Nat.zero_le _, rfl, HR, hide_ (Below.refl _ _)⟩
  case round =>
    obtain ⟨k, hk, rfl, HT, hb⟩ := hrel
    rename World => wo
    by_cases hlt : k < L.length
    · obtain ⟨⟨of, om, oa, ob, oc, od⟩, hz⟩ : ∃ z, L[k]? = some z := ⟨_, List.getElem?_eq_getElem hlt⟩
      obtain ⟨q, off, rfl, d0, d1, d2, d3, d4, d5⟩ := HC.out k of om oa ob oc od hz
      have kw := B0.out.trans (hb.out.mono B0.out.size)
      have d0 := cell_later kw d0
      have d1 := cell_later kw d1
      have d2 := cell_later kw d2
      have d3 := cell_later kw d3
      have d4 := cell_later kw d4
      have d5 := cell_later kw d5
      have HM := hide_ (mchk_drop hz)
      clear hz
      have hlt' : (k : Int) < (L.length : Int) := by omega
      have hsl := fun wx => ox_slice HL.out k hk wx
      have HLk := hide_ ((HL.out.take k hk).later kw)
      have BO := hide_ (below1 wo (.cells #[.int .i64 of, .bool om, .int .u64 (oa : Int), .int .u64 (ob : Int), .int .u64 (oc : Int), .int .u64 (od : Int)] 51))
      have KO := hide_ (hb.out.trans (BO.out.mono hb.out.size))
      have O1 := hide_ (AB.at0 wo 51 [.int .i64 of, .bool om, .int .u64 (oa : Int), .int .u64 (ob : Int), .int .u64 (oc : Int), .int .u64 (od : Int)])
      have qc := hide_ (ocont_any _ _ of om oa ob oc od wo.heap.size (wo.alloc (.cells #[.int .i64 of, .bool om, .int .u64 (oa : Int), .int .u64 (ob : Int), .int .u64 (oc : Int), .int .u64 (od : Int)] 51)) (HLk.out.later BO.out) O1.out)
      have qm := hide_ (fun W (hW : Below (wo.alloc (.cells #[.int .i64 of, .bool om, .int .u64 (oa : Int), .int .u64 (ob : Int), .int .u64 (oc : Int), .int .u64 (od : Int)] 51)).heap.size (wo.alloc (.cells #[.int .i64 of, .bool om, .int .u64 (oa : Int), .int .u64 (ob : Int), .int .u64 (oc : Int), .int .u64 (od : Int)] 51)) W) => met_any _ _ of W ((HLk.out.later BO.out).later hW))
      clear kw
      cases ha : (L.take k).any (fun t => decide (t.1 = of))
      · rw [ha] at qc
        have HA := hide_ ha
        clear ha
        go_wp2_with (go_at_call 23; refine qc.out.mono ?_; rintro e w2 ⟨rfl, b2⟩)
        have K2 := KO.out.trans (Below.refl _ _)
        obtain ⟨o0, -⟩ := (O1.out.later b2).six
        cases hq : metB (L.take k) of
        · rw [hq] at qm
          have HQ := hide_ hq
          clear hq
          refine wp_region_held_drew (S := (fun w' => w'.cell? ⟨wo.heap.size, 0, none⟩ = some (.int .i64 of) ∧ Below (wo.alloc (.cells #[.int .i64 of, .bool om, .int .u64 (oa : Int), .int .u64 (ob : Int), .int .u64 (oc : Int), .int .u64 (od : Int)] 51)).heap.size (wo.alloc (.cells #[.int .i64 of, .bool om, .int .u64 (oa : Int), .int .u64 (ob : Int), .int .u64 (oc : Int), .int .u64 (od : Int)] 51)) w')) (by kernel_rfl) (⟨o0, (b2.mono (Nat.le_refl _)).drew⟩) (fun hHeld => ?_)
          refine takeR (i := 0) (v := ?_) rfl (by kernel_rfl) (by kernel_rfl) (by kernel_rfl) (some 18) rfl (Or.inl ⟨by rfl, ?_⟩) (fun _ _ _ h => h) (by assumption) ?_
          rotate_left
          · intro w hSw; (try dsimp only at hSw); go_simp; (try with_reducible rfl)
          simp only [Act.put, List.setIfInBounds_toArray, List.set_cons_zero, List.set_cons_succ]
          refine takeR (i := 1) (v := ?_) rfl (by kernel_rfl) (by kernel_rfl) (by kernel_rfl) (some 19) rfl (Or.inl ⟨by rfl, ?_⟩) (fun _ _ _ h => h) (by assumption) ?_
          rotate_left
          · intro w hSw; (try dsimp only at hSw); go_simp; (try with_reducible rfl)
          simp only [Act.put, List.setIfInBounds_toArray, List.set_cons_zero, List.set_cons_succ]
          refine takeR (i := 2) (v := ?_) rfl (by kernel_rfl) (by kernel_rfl) (by kernel_rfl) (some 20) rfl (Or.inl ⟨by rfl, ?_⟩) (fun _ _ _ h => h) (by assumption) ?_
          rotate_left
          · intro w hSw; (try dsimp only at hSw); go_simp; (try with_reducible rfl)
          simp only [Act.put, List.setIfInBounds_toArray, List.set_cons_zero, List.set_cons_succ]
          refine takeR (i := 3) (v := ?_) rfl (by kernel_rfl) (by kernel_rfl) (by kernel_rfl) (some 21) rfl (Or.inl ⟨by rfl, ?_⟩) (fun _ _ _ h => h) (by assumption) ?_
          rotate_left
          · intro w hSw; (try dsimp only at hSw); go_simp; (try with_reducible rfl)
          simp only [Act.put, List.setIfInBounds_toArray, List.set_cons_zero, List.set_cons_succ]
          refine takeR (i := 4) (v := ?_) rfl (by kernel_rfl) (by kernel_rfl) (by kernel_rfl) (some 22) rfl (Or.inl ⟨by rfl, ?_⟩) (fun _ _ _ h => h) (by assumption) ?_
          rotate_left
          · intro w hSw; (try dsimp only at hSw); go_simp; (try with_reducible rfl)
          simp only [Act.put, List.setIfInBounds_toArray, List.set_cons_zero, List.set_cons_succ]
          refine wpAnyH_ready (rs := [5]) (by kernel_rfl) (by simp) ?_
          refine AllReadyH.cons rfl (fun K hK => ?_) (AllReadyH.nil)
          go_simp
          refine (qm.out _ hHeld.2).mono ?_
          rintro e w4 ⟨rfl, b4⟩
          refine hK.out _ _ (⟨cell_later b4 hHeld.1, hHeld.2.trans (b4.mono hHeld.2.size)⟩) (fun hHeld => ?_)
          clear hK K
          try simp only [Act.put, List.setIfInBounds_toArray, List.set_cons_zero, List.set_cons_succ]
          refine takeR (i := 6) (v := ?_) rfl (by kernel_rfl) (by kernel_rfl) (by kernel_rfl) (some 24) rfl (Or.inl ⟨by rfl, ?_⟩) (fun _ _ _ h => h) (by assumption) ?_
          rotate_left
          · intro w hSw; (try dsimp only at hSw); go_simp; (try with_reducible rfl)
          simp only [Act.put, List.setIfInBounds_toArray, List.set_cons_zero, List.set_cons_succ]
          refine wpAnyH_done (by kernel_rfl) ?_ _
          have K4 := K2.trans (hHeld.2.mono K2.size)
          go_wp2_with (go_at_call 37; refine (qr.out _ _).mono ?_; rintro e w5 ⟨rfl, b5⟩; have K5 := K4.trans (b5.mono K4.size); obtain ⟨s0, s1, s2, s3, s4, s5⟩ := (F0.out.later K5).three; obtain ⟨u0, u1, u2, -⟩ := ((F0.out.later K5).set3 (.bool true) (.int .i64 4) (.int .i64 9)).three; have bb := below_set3 (g := w.heap.size) (B0.out.trans (K5.mono B0.out.size)) (Nat.le_refl _) (.bool true) (.int .i64 4) (.int .i64 9))
          exact bodyPost_ret (v := .agg #[.bool true, .int .i64 4, .int .i64 9]) (by simp [results, Try.results12, go_sem, u0, u1, u2]) rfl ⟨by rw [← HT.out, HM.out, HA.out]; simp [HQ.out, fo4, fv], bb⟩
        · rw [hq] at qm
          have HQ := hide_ hq
          clear hq
          refine wp_region_held_drew (S := (fun w' => w'.cell? ⟨wo.heap.size, 0, none⟩ = some (.int .i64 of) ∧ Below (wo.alloc (.cells #[.int .i64 of, .bool om, .int .u64 (oa : Int), .int .u64 (ob : Int), .int .u64 (oc : Int), .int .u64 (od : Int)] 51)).heap.size (wo.alloc (.cells #[.int .i64 of, .bool om, .int .u64 (oa : Int), .int .u64 (ob : Int), .int .u64 (oc : Int), .int .u64 (od : Int)] 51)) w')) (by kernel_rfl) (⟨o0, (b2.mono (Nat.le_refl _)).drew⟩) (fun hHeld => ?_)
          refine takeR (i := 0) (v := ?_) rfl (by kernel_rfl) (by kernel_rfl) (by kernel_rfl) (some 18) rfl (Or.inl ⟨by rfl, ?_⟩) (fun _ _ _ h => h) (by assumption) ?_
          rotate_left
          · intro w hSw; (try dsimp only at hSw); go_simp; (try with_reducible rfl)
          simp only [Act.put, List.setIfInBounds_toArray, List.set_cons_zero, List.set_cons_succ]
          refine takeR (i := 1) (v := ?_) rfl (by kernel_rfl) (by kernel_rfl) (by kernel_rfl) (some 19) rfl (Or.inl ⟨by rfl, ?_⟩) (fun _ _ _ h => h) (by assumption) ?_
          rotate_left
          · intro w hSw; (try dsimp only at hSw); go_simp; (try with_reducible rfl)
          simp only [Act.put, List.setIfInBounds_toArray, List.set_cons_zero, List.set_cons_succ]
          refine takeR (i := 2) (v := ?_) rfl (by kernel_rfl) (by kernel_rfl) (by kernel_rfl) (some 20) rfl (Or.inl ⟨by rfl, ?_⟩) (fun _ _ _ h => h) (by assumption) ?_
          rotate_left
          · intro w hSw; (try dsimp only at hSw); go_simp; (try with_reducible rfl)
          simp only [Act.put, List.setIfInBounds_toArray, List.set_cons_zero, List.set_cons_succ]
          refine takeR (i := 3) (v := ?_) rfl (by kernel_rfl) (by kernel_rfl) (by kernel_rfl) (some 21) rfl (Or.inl ⟨by rfl, ?_⟩) (fun _ _ _ h => h) (by assumption) ?_
          rotate_left
          · intro w hSw; (try dsimp only at hSw); go_simp; (try with_reducible rfl)
          simp only [Act.put, List.setIfInBounds_toArray, List.set_cons_zero, List.set_cons_succ]
          refine takeR (i := 4) (v := ?_) rfl (by kernel_rfl) (by kernel_rfl) (by kernel_rfl) (some 22) rfl (Or.inl ⟨by rfl, ?_⟩) (fun _ _ _ h => h) (by assumption) ?_
          rotate_left
          · intro w hSw; (try dsimp only at hSw); go_simp; (try with_reducible rfl)
          simp only [Act.put, List.setIfInBounds_toArray, List.set_cons_zero, List.set_cons_succ]
          refine wpAnyH_ready (rs := [5]) (by kernel_rfl) (by simp) ?_
          refine AllReadyH.cons rfl (fun K hK => ?_) (AllReadyH.nil)
          go_simp
          refine (qm.out _ hHeld.2).mono ?_
          rintro e w4 ⟨rfl, b4⟩
          refine hK.out _ _ (⟨cell_later b4 hHeld.1, hHeld.2.trans (b4.mono hHeld.2.size)⟩) (fun hHeld => ?_)
          clear hK K
          try simp only [Act.put, List.setIfInBounds_toArray, List.set_cons_zero, List.set_cons_succ]
          refine takeR (i := 6) (v := ?_) rfl (by kernel_rfl) (by kernel_rfl) (by kernel_rfl) (some 24) rfl (Or.inl ⟨by rfl, ?_⟩) (fun _ _ _ h => h) (by assumption) ?_
          rotate_left
          · intro w hSw; (try dsimp only at hSw); go_simp; (try with_reducible rfl)
          simp only [Act.put, List.setIfInBounds_toArray, List.set_cons_zero, List.set_cons_succ]
          refine wpAnyH_done (by kernel_rfl) ?_ _
          have K4 := K2.trans (hHeld.2.mono K2.size)
          go_wp2_with fail
          go_roundw
          case rel =>
            refine ⟨k + 1, by omega, by go_num, ?_, hide_ K4⟩
            show _ = _
            have e := HT.out
            rw [HM.out, HA.out] at e
            simpa [HQ.out] using e
          case measure => simp [intOf]; omega
      · rw [ha] at qc
        have HA := hide_ ha
        clear ha
        have HQ : Hid True := trivial
        go_wp2_with (first | (go_at_call 23; refine qc.out.mono ?_; rintro e w2 ⟨rfl, b2⟩; have K2 := KO.out.trans (b2.mono KO.out.size)) | (go_at_call 37; refine (qr.out _ _).mono ?_; rintro e w5 ⟨rfl, b5⟩; have K5 := K2.trans (b5.mono K2.size); obtain ⟨s0, s1, s2, s3, s4, s5⟩ := (F0.out.later K5).three; obtain ⟨u0, u1, u2, -⟩ := ((F0.out.later K5).set3 (.bool true) (.int .i64 4) (.int .i64 10)).three; have bb := below_set3 (g := w.heap.size) (B0.out.trans (K5.mono B0.out.size)) (Nat.le_refl _) (.bool true) (.int .i64 4) (.int .i64 10)))
        exact bodyPost_ret (v := .agg #[.bool true, .int .i64 4, .int .i64 10]) (by simp [results, Try.results12, go_sem, u0, u1, u2]) rfl ⟨by rw [← HT.out, HM.out, HA.out]; simp [HQ.out, fo4, fv], bb⟩
    · have hlt' : ¬ (k : Int) < (L.length : Int) := by omega
      obtain ⟨s0, s1, s2, s3, s4, s5⟩ := (F0.out.later hb.out).three
      obtain ⟨u0, u1, u2, -⟩ := ((F0.out.later hb.out).set3 (.bool false) (.int .i64 0) (.int .i64 0)).three
      have bb := below_set3 (g := w.heap.size) (B0.out.trans (hb.out.mono B0.out.size)) (Nat.le_refl _) (.bool false) (.int .i64 0) (.int .i64 0)
      go_wp2
      refine bodyPost_ret (v := .agg #[.bool false, .int .i64 0, .int .i64 0]) (by simp [results, Try.results12, go_sem, u0, u1, u2]) rfl ⟨?_, bb⟩
      have e := HT.out
      rw [List.drop_eq_nil_of_le (by omega)] at e
      rw [← e]
      rfl


end Go.Proofs.Ytcffebkebldjcaa
