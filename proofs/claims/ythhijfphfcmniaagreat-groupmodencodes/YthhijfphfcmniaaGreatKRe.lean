import Derived.Test.YthhijfphfcmniaaGreatKNe
import Derived.Test.YthhijfphfcmniaaGreatJL
import Derived.Test.YthhijfphfcmniaaGreatUAe
import Derived.Test.YthhijfphfcmniaaGreatOzc
import Derived.Deep.RegionHeld3
import Derived.Deep.RegionWith
import Derived.Deep.MidRow
import Derived.Deep.Cut
namespace Go.Proofs.YthhijfphfcmniaaGreat
section
open Go Go.RowKit
set_option linter.unusedVariables false
set_option linter.unusedSimpArgs false

theorem rle_all {v : Value} {L : List A11} {B : List Int} {er : Int} {w : World} (hL : ActAt w v L) (hF : AFit L) (h : encR L B er) : Calls Tryz.prog 38 #[v] w fun e w' => ∃ r, e = .returned (.tuple #[r, .int .i64 er]) ∧ OwnB w' w.heap.size r B ∧ Below w.heap.size w w' := by
  rcases h with ⟨h1, h2, rfl, rfl⟩ | ⟨h, rfl, rfl⟩
  · exact (rle_yes v L w hL hF h1 h2).mono fun e w' ⟨⟨r, a1, a2⟩, a3⟩ => ⟨r, a1, a2, a3⟩
  · have key : ∀ (e : Ending) (w' : World), e = .returned (.tuple #[.slice none 0 0, .int .i64 1]) ∧ Below w.heap.size w w' → ∃ r, e = .returned (.tuple #[r, .int .i64 1]) ∧ OwnB w' w.heap.size r [] ∧ Below w.heap.size w w' := fun e w' he => ⟨_, he.1, own_nilB _ _, he.2⟩
    by_cases h100 : L.length ≤ 100
    · have h3 : L.all artO = false := by
        cases hh : L.all artO
        · rfl
        · exact absurd ⟨h100, hh⟩ h
      exact (rle_no v L w hL hF h100 h3).mono key
    · exact (rle_big v L w hL (by omega)).mono key

set_option maxRecDepth 100000 in
set_option maxHeartbeats 8000000 in
theorem rbright_any (a b c : Int) (u : Value) (L : List A11) (w : World) (hL : ActAt w u L) (hF : AFit L) :
    Calls Tryz.prog 101 #[.agg #[.int .i64 a, .int .i64 b, .int .i64 c, u]] w fun e w' => e = .returned (.bool (bkR (a, b, c, L))) ∧ Below w.heap.size w w' := by
  obtain ⟨B, er, hB⟩ := encR_some L
  have A0 := hide_ (AB.at0 w 87 [.int .i64 a, .int .i64 b, .int .i64 c, u])
  have B0 := hide_ (below1 w (.cells #[.int .i64 a, .int .i64 b, .int .i64 c, u] 87))
  have qe := hide_ (fun W (hb : Below w.heap.size w W) => rle_all (hL.later hb) hF hB)
  obtain ⟨x0, x1, x2, x3, -⟩ := A0.out.k4
  have hc : (er = 1 ∧ bkA (a, b, c, L) = false) ∨ (er = 0 ∧ bkA (a, b, c, L) = true) := by
    rcases hB with ⟨h1, h2, rfl, rfl⟩ | ⟨h, -, rfl⟩
    · refine .inr ⟨rfl, ?_⟩
      show (decide (L.length ≤ 100) && L.all artO) = true
      rw [h2, decide_eq_true h1]; rfl
    · refine .inl ⟨rfl, ?_⟩
      cases hh : bkA (a, b, c, L)
      · rfl
      · exfalso
        unfold bkA at hh
        rw [Bool.and_eq_true, decide_eq_true_eq] at hh
        exact h hh
  have e : bkR (a, b, c, L) = (bkA (a, b, c, L) && (rightB a 2 && (rightB b 4 && rightB c 4))) := rfl
  rw [e]
  clear hL hF hB e
  rcases hc with ⟨rfl, hc⟩ | ⟨rfl, hc⟩
  · rw [hc]
    clear hc
    go_enter Tryz.func101, Tryz.ntmps101
    go_wp2_with (first | (go_at_call 38; refine (qe.out _ B0.out).mono ?_; rintro e w2 ⟨r, rfl, hO, b2⟩; have k2 := hide_ (B0.out.trans (b2.mono B0.out.size)); obtain ⟨x0, x1, x2, x3, -⟩ := (A0.out.later b2).k4; clear hO b2) | (go_at_call 62; refine (rright_any _ _ _).mono ?_; rintro e w9 ⟨rfl, rfl⟩))
    go_ret
    exact ⟨rfl, k2.out⟩
  · rw [hc]
    clear hc
    cases h1 : rightB a 2
    all_goals cases h2 : rightB b 4
    all_goals cases h3 : rightB c 4
    all_goals
      go_enter Tryz.func101, Tryz.ntmps101
      go_wp2_with (first | (go_at_call 38; refine (qe.out _ B0.out).mono ?_; rintro e w2 ⟨r, rfl, hO, b2⟩; have k2 := hide_ (B0.out.trans (b2.mono B0.out.size)); obtain ⟨x0, x1, x2, x3, -⟩ := (A0.out.later b2).k4; clear hO b2) | (go_at_call 62; refine (rright_any _ _ _).mono ?_; rintro e w9 ⟨rfl, rfl⟩))
      go_ret
      exact ⟨rfl, k2.out⟩
end

section
open Go Go.RowKit
set_option linter.unusedVariables false
set_option linter.unusedSimpArgs false

set_option maxRecDepth 100000 in
set_option maxHeartbeats 8000000 in
theorem rbe_yes (v : Value) (L : List BK) (w : World) (hL : BuckAt w v L) (hF : BFit L) (h100 : L.length ≤ 100) (hr : L.all bkR = true) (h6 : (encK L).length ≤ 60000) :
    Calls Tryz.prog 61 #[v] w fun e w' => (∃ r, e = .returned (.tuple #[r, .int .i64 0]) ∧ OwnB w' w.heap.size r (encK L)) ∧ Below w.heap.size w w' := by
  obtain ⟨s, cap, rfl, h1, h2, h3, h4⟩ := hL
  have HL := hide_ h4
  have HF := hide_ hF
  have H100 := hide_ h100
  have HR := hide_ hr
  have hm : L.length ≤ 9223372036854775807 := by omega
  have hg : ¬ (100 : Int) < (L.length : Int) := by omega
  have H6 := hide_ h6
  clear h6
  obtain ⟨i0, hi0, hz0, hz1, hz2⟩ := info_parts info5
  have HI : Hid (Tryz.prog.info? 5 = some i0 ∧ i0.zero = some (.int .u8 0) ∧ i0.size = 1 ∧ i0.bytes = 1) := ⟨hi0, hz0, hz1, hz2⟩
  have hO0 : Hid (OwnB (w.alloc (.cells #[] 5)) w.heap.size (.slice (some ⟨w.heap.size, 0, none⟩) 0 0) []) := hide_ ⟨by have := World.ownsRow_made (base := w.heap.size) (e := 5) (size := 1) w #[] 0 (by simp) (Nat.zero_le _) rfl; simpa [u8s] using this, fun z hz => by cases hz⟩
  have hB0 := hide_ (below1 w (.cells #[] 5))
  clear hi0 hz0 hz1 hz2 h1 h2 h3 h4 hF h100 hr
  go_enter Tryz.func61, Tryz.ntmps61
  go_wp2
  go_loopw [4, 5, 6, 7] (fun b i _ _ wr => ∃ (j : Nat) (sb : Option Addr) (nb cb : Nat) (EJ : List Int), j ≤ L.length ∧ i = .int .i64 (j : Int) ∧ b = .slice sb nb cb ∧ Hid (EJ = encK (L.take j)) ∧ Hid (EJ.length = nb) ∧ Hid (OwnB wr w.heap.size (.slice sb nb cb) EJ) ∧ Hid ((L.take j).all bkR = true) ∧ Hid (Below w.heap.size w wr)) (fun _ i _ _ _ => L.length - (intOf i).toNat)
  case atStart => exact ⟨0, some ⟨w.heap.size, 0, none⟩, 0, 0, [], Nat.zero_le _, rfl, rfl, hide_ rfl, hide_ rfl, hO0, hide_ rfl, hB0⟩
  case round =>
    clear hO0 hB0
    obtain ⟨j, sb, nb, cb, EJ, hj, rfl, rfl, HE, HNB, HOw, HA, KB⟩ := hrel
    by_cases hlt : j < L.length
    · have hlt' : (j : Int) < (L.length : Int) := by omega
      have hj0 : (0 : Int) ≤ (j : Int) := by omega
      obtain ⟨⟨a1, b1, c1, M1⟩, hz1⟩ : ∃ z, L[j]? = some z := ⟨_, List.getElem?_eq_getElem hlt⟩
      obtain ⟨bq1, off1, u1, rfl, X0, X1, X2, X3, M1A⟩ := HL.out j _ hz1
      have X0 := cell_later KB.out X0
      have X1 := cell_later KB.out X1
      have X2 := cell_later KB.out X2
      have X3 := cell_later KB.out X3
      obtain ⟨su1, cu1, eu1, -⟩ := id M1A
      subst eu1
      have HX := hide_ hz1
      have M1H := hide_ (M1A.later KB.out)
      have hF1 := hide_ (HF.out _ (List.mem_of_getElem? hz1))
      have qs := fun W (hW : Below wr.heap.size wr W) => rbright_any a1 b1 c1 _ M1 W (M1H.out.later hW) hF1.out
      clear hz1 M1A
      cases ho : bkR (a1, b1, c1, M1)
      · exfalso
        have h := all_no HX.out ho
        rw [HR.out] at h
        cases h
      · skip
        rw [ho] at qs
        have qs := hide_ qs
        obtain ⟨hp1, hp2, h1, h2, h3⟩ := bkR_parts ho
        have h1 : rightB a1 2 = true := h1
        have h2 : rightB b1 4 = true := h2
        have h3 : rightB c1 4 = true := h3
        have hl6 := encA_6000 hF1.out hp1 hp2
        have qe := fun W (hW : Below wr.heap.size wr W) => rle_yes _ M1 W (M1H.out.later hW) hF1.out hp1 hp2
        have hbe : bkE (a1, b1, c1, M1) = [] ++ spl (16 + ((encA M1).length : Int)) 2 ++ spl a1 2 ++ spl b1 4 ++ spl c1 4 ++ List.replicate 4 0 ++ encA M1 := by
          show [] ++ spl ((16 + (encA M1).length : Nat) : Int) 2 ++ _ ++ _ ++ _ ++ _ ++ _ = _
          rw [Int.natCast_add]; rfl
        have HLE : Hid (nb ≤ 601600 ∧ EJ.length = nb) := hide_ ⟨by
          have h2 := encK_len (L.take j) (fun o h => HF.out o (List.mem_of_mem_take h)) HA.out
          rw [← HE.out, HNB.out, List.length_take] at h2
          have h3 : min j L.length ≤ 100 := by have := H100.out; omega
          omega, HNB.out⟩
        have HEB := hide_ HOw.out.2
        have HO := hide_ ho
        have HE8 := hide_ (encK_take HX.out)
        simp only at hl6 qe
        generalize encA M1 = B at *
        obtain ⟨nn, hnn⟩ : ∃ nn, B.length = nn := ⟨_, rfl⟩
        have HNN := hide_ hnn
        rw [hnn] at hl6 hbe
        have HBE := hide_ hbe
        have h0 : rightB (16 + (nn : Int)) 2 = true := rightB_in2 (by omega) (by omega)
        have hw0 : IntKind.i64.wrap (16 + (nn : Int)) = 16 + (nn : Int) := by rw [IntKind.wrap_i64]; omega
        have qe := hide_ qe
        clear ho hp1 hp2 hnn hbe
        go_wp2_with (first | (go_at_call 101; refine (qs.out _ (Below.refl _ _)).mono ?_; rintro e w5 ⟨rfl, b5⟩; have X0 := cell_later b5 X0; have X1 := cell_later b5 X1; have X2 := cell_later b5 X2; have X3 := cell_later b5 X3) | (go_at_call 38; refine (qe.out _ b5).mono ?_; rintro e w6 ⟨⟨r6, rfl, hO6⟩, b6⟩; obtain ⟨s6, c6, hr6⟩ := own_sliceB hO6; rw [HNN.out] at hr6; subst hr6; have HO6 := hide_ hO6; have j6 := hide_ (b5.trans (b6.mono b5.size)); have X0w := cell_later b6 X0; have X1w := cell_later b6 X1; have X2w := cell_later b6 X2; clear hO6))
        try simp only [Act.put]
        refine wp_region_held_drew (S := (fun w' => Below w6.heap.size w6 w')) (by kernel_rfl) ((Below.refl _ _).drew) (fun hHeld => ?_)
        have kb0 : Below w6.heap.size w6 w6.drew := (Below.refl _ _).drew
        generalize w6.drew = D0 at *
        refine takeR (i := 0) (v := ?_) rfl (by kernel_rfl) (by kernel_rfl) (by kernel_rfl) (some 33) rfl (Or.inl ⟨by rfl, ?_⟩) (fun _ _ _ h => h) (by assumption) ?_
        rotate_left
        · intro w hSw; (try dsimp only at hSw); go_simp; (try with_reducible rfl)
        simp only [Act.put, List.setIfInBounds_toArray, List.set_cons_zero, List.set_cons_succ]
        refine takeR (i := 1) (v := ?_) rfl (by kernel_rfl) (by kernel_rfl) (by kernel_rfl) (some 34) rfl (Or.inl ⟨by rfl, ?_⟩) (fun _ _ _ h => h) (by assumption) ?_
        rotate_left
        · intro w hSw; (try dsimp only at hSw); go_simp; (try with_reducible rfl)
        simp only [Act.put, List.setIfInBounds_toArray, List.set_cons_zero, List.set_cons_succ]
        refine takeR (i := 2) (v := ?_) rfl (by kernel_rfl) (by kernel_rfl) (by kernel_rfl) (some 35) rfl (Or.inl ⟨by rfl, ?_⟩) (fun _ _ _ h => h) (by assumption) ?_
        rotate_left
        · intro w hSw; (try dsimp only at hSw); go_simp; (try with_reducible rfl)
        simp only [Act.put, List.setIfInBounds_toArray, List.set_cons_zero, List.set_cons_succ]
        refine takeR (i := 3) (v := ?_) rfl (by kernel_rfl) (by kernel_rfl) (by kernel_rfl) (some 36) rfl (Or.inl ⟨by rfl, ?_⟩) (fun _ _ _ h => h) (by assumption) ?_
        rotate_left
        · intro w hSw; (try dsimp only at hSw); go_simp; (try with_reducible rfl)
        simp only [Act.put, List.setIfInBounds_toArray, List.set_cons_zero, List.set_cons_succ]
        refine takeR (i := 5) (v := ?_) rfl (by kernel_rfl) (by kernel_rfl) (by kernel_rfl) (some 38) rfl (Or.inl ⟨by rfl, ?_⟩) (fun _ _ _ h => h) (by assumption) ?_
        rotate_left
        · intro w hSw; (try dsimp only at hSw); go_simp; (try with_reducible rfl)
        simp only [Act.put, List.setIfInBounds_toArray, List.set_cons_zero, List.set_cons_succ]
        refine takeR (i := 6) (v := ?_) rfl (by kernel_rfl) (by kernel_rfl) (by kernel_rfl) (some 39) rfl (Or.inl ⟨by rfl, ?_⟩) (fun _ _ _ h => h) (by assumption) ?_
        rotate_left
        · intro w hSw; (try dsimp only at hSw); go_simp; (try with_reducible rfl)
        simp only [Act.put, List.setIfInBounds_toArray, List.set_cons_zero, List.set_cons_succ]
        refine takeR (i := 7) (v := ?_) rfl (by kernel_rfl) (by kernel_rfl) (by kernel_rfl) (some 40) rfl (Or.inl ⟨by rfl, ?_⟩) (fun _ _ _ h => h) (by assumption) ?_
        rotate_left
        · intro w hSw; (try dsimp only at hSw); go_simp; (try with_reducible rfl)
        simp only [Act.put, List.setIfInBounds_toArray, List.set_cons_zero, List.set_cons_succ]
        refine takeR (i := 8) (v := ?_) rfl (by kernel_rfl) (by kernel_rfl) (by kernel_rfl) (some 41) rfl (Or.inl ⟨by rfl, ?_⟩) (fun _ _ _ h => h) (by assumption) ?_
        rotate_left
        · intro w hSw; (try dsimp only at hSw); go_simp; (try with_reducible rfl)
        simp only [Act.put, List.setIfInBounds_toArray, List.set_cons_zero, List.set_cons_succ]
        refine takeR (i := 9) (v := ?_) rfl (by kernel_rfl) (by kernel_rfl) (by kernel_rfl) (some 42) rfl (Or.inl ⟨by rfl, ?_⟩) (fun _ _ _ h => h) (by assumption) ?_
        rotate_left
        · intro w hSw; (try dsimp only at hSw); have hcx := cell_later hSw X0w; go_simp; (try with_reducible rfl)
        simp only [Act.put, List.setIfInBounds_toArray, List.set_cons_zero, List.set_cons_succ]
        refine wpAnyH_ready (rs := [4]) (by kernel_rfl) (by simp) ?_
        refine AllReadyH.cons rfl (fun K hK => ?_) (AllReadyH.nil)
        go_simp
        go_at_call 36
        refine (rput_any _ EJ (16 + (nn : Int)) 2 _ ((HOw.out.later (j6.out.trans (kb0.mono j6.out.size))).bytes) (by have := HLE.out; omega) h0).mono ?_
        rintro e D1 ⟨r1, rfl, ho1, bj⟩
        refine hK.out _ _ (kb0.trans (bj.mono kb0.size)) (fun hHeld => ?_)
        clear hK K
        try simp only [Act.put, List.setIfInBounds_toArray, List.set_cons_zero, List.set_cons_succ]
        have kb1 := kb0.trans (bj.mono kb0.size)
        have HP1 : Hid (OwnB D1 D0.heap.size r1 (EJ ++ spl (16 + (nn : Int)) 2)) := hide_ ⟨ho1, HEB.out.app (isB_spl2 _)⟩
        clear bj
        refine wpAnyH_ready (rs := [10]) (by kernel_rfl) (by simp) ?_
        refine AllReadyH.cons rfl (fun K hK => ?_) (AllReadyH.nil)
        go_simp
        go_at_call 36
        refine (rput_any r1 (EJ ++ spl (16 + (nn : Int)) 2) a1 2 _ HP1.out.bytes (by have := HLE.out; simp only [List.length_append, spl_len2, spl_len4]; omega) h1).mono ?_
        rintro e D2 ⟨r2, rfl, ho2, bj⟩
        refine hK.out _ _ (kb1.trans (bj.mono kb1.size)) (fun hHeld => ?_)
        clear hK K
        try simp only [Act.put, List.setIfInBounds_toArray, List.set_cons_zero, List.set_cons_succ]
        have kb2 := kb1.trans (bj.mono kb1.size)
        have HP2 : Hid (OwnB D2 D1.heap.size r2 (EJ ++ spl (16 + (nn : Int)) 2 ++ spl a1 2)) := hide_ ⟨ho2, HP1.out.2.app (isB_spl2 _)⟩
        clear bj
        refine takeR (i := 11) (v := ?_) rfl (by kernel_rfl) (by kernel_rfl) (by kernel_rfl) (some 4) rfl (Or.inl ⟨by rfl, ?_⟩) (fun _ _ _ h => h) (by assumption) ?_
        rotate_left
        · intro w hSw; (try dsimp only at hSw); go_simp; (try with_reducible rfl)
        simp only [Act.put, List.setIfInBounds_toArray, List.set_cons_zero, List.set_cons_succ]
        refine wpAnyH_done (by kernel_rfl) ?_ _
        have X1w := cell_later kb2 X1w
        have X2w := cell_later kb2 X2w
        clear kb0 kb1 HP1 hHeld
        go_wp2_with fail
        try simp only [Act.put]
        refine wp_region_held_drew (S := (fun w' => Below D2.heap.size D2 w')) (by kernel_rfl) ((Below.refl _ _).drew) (fun hHeld => ?_)
        have kc0 : Below D2.heap.size D2 D2.drew := (Below.refl _ _).drew
        generalize D2.drew = E0 at *
        refine takeR (i := 0) (v := ?_) rfl (by kernel_rfl) (by kernel_rfl) (by kernel_rfl) (some 44) rfl (Or.inl ⟨by rfl, ?_⟩) (fun _ _ _ h => h) (by assumption) ?_
        rotate_left
        · intro w hSw; (try dsimp only at hSw); go_simp; (try with_reducible rfl)
        simp only [Act.put, List.setIfInBounds_toArray, List.set_cons_zero, List.set_cons_succ]
        refine takeR (i := 1) (v := ?_) rfl (by kernel_rfl) (by kernel_rfl) (by kernel_rfl) (some 45) rfl (Or.inl ⟨by rfl, ?_⟩) (fun _ _ _ h => h) (by assumption) ?_
        rotate_left
        · intro w hSw; (try dsimp only at hSw); go_simp; (try with_reducible rfl)
        simp only [Act.put, List.setIfInBounds_toArray, List.set_cons_zero, List.set_cons_succ]
        refine takeR (i := 2) (v := ?_) rfl (by kernel_rfl) (by kernel_rfl) (by kernel_rfl) (some 46) rfl (Or.inl ⟨by rfl, ?_⟩) (fun _ _ _ h => h) (by assumption) ?_
        rotate_left
        · intro w hSw; (try dsimp only at hSw); go_simp; (try with_reducible rfl)
        simp only [Act.put, List.setIfInBounds_toArray, List.set_cons_zero, List.set_cons_succ]
        refine takeR (i := 3) (v := ?_) rfl (by kernel_rfl) (by kernel_rfl) (by kernel_rfl) (some 47) rfl (Or.inl ⟨by rfl, ?_⟩) (fun _ _ _ h => h) (by assumption) ?_
        rotate_left
        · intro w hSw; (try dsimp only at hSw); go_simp; (try with_reducible rfl)
        simp only [Act.put, List.setIfInBounds_toArray, List.set_cons_zero, List.set_cons_succ]
        refine takeR (i := 4) (v := ?_) rfl (by kernel_rfl) (by kernel_rfl) (by kernel_rfl) (some 48) rfl (Or.inl ⟨by rfl, ?_⟩) (fun _ _ _ h => h) (by assumption) ?_
        rotate_left
        · intro w hSw; (try dsimp only at hSw); go_simp; (try with_reducible rfl)
        simp only [Act.put, List.setIfInBounds_toArray, List.set_cons_zero, List.set_cons_succ]
        refine takeR (i := 5) (v := ?_) rfl (by kernel_rfl) (by kernel_rfl) (by kernel_rfl) (some 49) rfl (Or.inl ⟨by rfl, ?_⟩) (fun _ _ _ h => h) (by assumption) ?_
        rotate_left
        · intro w hSw; (try dsimp only at hSw); have hcx := cell_later hSw X1w; go_simp; (try with_reducible rfl)
        simp only [Act.put, List.setIfInBounds_toArray, List.set_cons_zero, List.set_cons_succ]
        refine takeR (i := 7) (v := ?_) rfl (by kernel_rfl) (by kernel_rfl) (by kernel_rfl) (some 51) rfl (Or.inl ⟨by rfl, ?_⟩) (fun _ _ _ h => h) (by assumption) ?_
        rotate_left
        · intro w hSw; (try dsimp only at hSw); go_simp; (try with_reducible rfl)
        simp only [Act.put, List.setIfInBounds_toArray, List.set_cons_zero, List.set_cons_succ]
        refine takeR (i := 8) (v := ?_) rfl (by kernel_rfl) (by kernel_rfl) (by kernel_rfl) (some 52) rfl (Or.inl ⟨by rfl, ?_⟩) (fun _ _ _ h => h) (by assumption) ?_
        rotate_left
        · intro w hSw; (try dsimp only at hSw); go_simp; (try with_reducible rfl)
        simp only [Act.put, List.setIfInBounds_toArray, List.set_cons_zero, List.set_cons_succ]
        refine takeR (i := 9) (v := ?_) rfl (by kernel_rfl) (by kernel_rfl) (by kernel_rfl) (some 53) rfl (Or.inl ⟨by rfl, ?_⟩) (fun _ _ _ h => h) (by assumption) ?_
        rotate_left
        · intro w hSw; (try dsimp only at hSw); go_simp; (try with_reducible rfl)
        simp only [Act.put, List.setIfInBounds_toArray, List.set_cons_zero, List.set_cons_succ]
        refine takeR (i := 10) (v := ?_) rfl (by kernel_rfl) (by kernel_rfl) (by kernel_rfl) (some 54) rfl (Or.inl ⟨by rfl, ?_⟩) (fun _ _ _ h => h) (by assumption) ?_
        rotate_left
        · intro w hSw; (try dsimp only at hSw); go_simp; (try with_reducible rfl)
        simp only [Act.put, List.setIfInBounds_toArray, List.set_cons_zero, List.set_cons_succ]
        refine takeR (i := 11) (v := ?_) rfl (by kernel_rfl) (by kernel_rfl) (by kernel_rfl) (some 55) rfl (Or.inl ⟨by rfl, ?_⟩) (fun _ _ _ h => h) (by assumption) ?_
        rotate_left
        · intro w hSw; (try dsimp only at hSw); have hcx := cell_later hSw X2w; go_simp; (try with_reducible rfl)
        simp only [Act.put, List.setIfInBounds_toArray, List.set_cons_zero, List.set_cons_succ]
        refine wpAnyH_ready (rs := [6]) (by kernel_rfl) (by simp) ?_
        refine AllReadyH.cons rfl (fun K hK => ?_) (AllReadyH.nil)
        go_simp
        go_at_call 36
        refine (rput_any _ (EJ ++ spl (16 + (nn : Int)) 2 ++ spl a1 2) b1 4 _ ((HP2.out.later kc0).bytes) (by have := HLE.out; simp only [List.length_append, spl_len2, spl_len4]; omega) h2).mono ?_
        rintro e E1 ⟨r3, rfl, ho3, bj⟩
        refine hK.out _ _ (kc0.trans (bj.mono kc0.size)) (fun hHeld => ?_)
        clear hK K
        try simp only [Act.put, List.setIfInBounds_toArray, List.set_cons_zero, List.set_cons_succ]
        have kc1 := kc0.trans (bj.mono kc0.size)
        have HP3 : Hid (OwnB E1 E0.heap.size r3 (EJ ++ spl (16 + (nn : Int)) 2 ++ spl a1 2 ++ spl b1 4)) := hide_ ⟨ho3, HP2.out.2.app (spl_isB _ _ h2)⟩
        clear bj
        refine wpAnyH_ready (rs := [12]) (by kernel_rfl) (by simp) ?_
        refine AllReadyH.cons rfl (fun K hK => ?_) (AllReadyH.nil)
        go_simp
        go_at_call 36
        refine (rput_any r3 (EJ ++ spl (16 + (nn : Int)) 2 ++ spl a1 2 ++ spl b1 4) c1 4 _ HP3.out.bytes (by have := HLE.out; simp only [List.length_append, spl_len2, spl_len4]; omega) h3).mono ?_
        rintro e E2 ⟨r4, rfl, ho4, bj⟩
        refine hK.out _ _ (kc1.trans (bj.mono kc1.size)) (fun hHeld => ?_)
        clear hK K
        try simp only [Act.put, List.setIfInBounds_toArray, List.set_cons_zero, List.set_cons_succ]
        have kc2 := kc1.trans (bj.mono kc1.size)
        have HP4 : Hid (OwnB E2 E1.heap.size r4 (EJ ++ spl (16 + (nn : Int)) 2 ++ spl a1 2 ++ spl b1 4 ++ spl c1 4)) := hide_ ⟨ho4, HP3.out.2.app (spl_isB _ _ h3)⟩
        have h45 := hide_ bj
        have hk4 := hide_ kc2
        clear bj
        refine takeR (i := 13) (v := ?_) rfl (by kernel_rfl) (by kernel_rfl) (by kernel_rfl) (some 4) rfl (Or.inl ⟨by rfl, ?_⟩) (fun _ _ _ h => h) (by assumption) ?_
        rotate_left
        · intro w hSw; (try dsimp only at hSw); go_simp; (try with_reducible rfl)
        simp only [Act.put, List.setIfInBounds_toArray, List.set_cons_zero, List.set_cons_succ]
        refine wpAnyH_done (by kernel_rfl) ?_ _
        have HBV := hide_ ((HO6.out.later kb2).later kc1)
        have hwb : Hid (D2.heap.size ≤ E1.heap.size) := hide_ kc1.size
        have hbs : Hid (E1.heap.size ≤ E2.heap.size) := hide_ h45.out.size
        have jV := hide_ (j6.out.trans ((kb2.trans (kc2.mono kb2.size)).mono j6.out.size))
        have kV := hide_ (KB.out.trans (jV.out.mono KB.out.size))
        have hwb0 : Hid (w.heap.size ≤ E1.heap.size) := hide_ (Nat.le_trans (Nat.le_trans KB.out.size (Nat.le_trans j6.out.size kb2.size)) kc1.size)
        obtain ⟨P4, hP4⟩ : ∃ P, EJ ++ spl (16 + (nn : Int)) 2 ++ spl a1 2 ++ spl b1 4 ++ spl c1 4 = P := ⟨_, rfl⟩
        have HL4 : Hid (P4.length = nb + 12) := hide_ (by rw [← hP4]; have := HLE.out; simp only [List.length_append, spl_len2, spl_len4]; omega)
        rw [hP4] at HP4
        have HPE := hide_ hP4
        obtain ⟨n4, hn4⟩ : ∃ n4, P4.length = n4 := ⟨_, rfl⟩
        have HN4 := hide_ hn4
        have HLE4 : Hid (n4 ≤ 700000) := hide_ (by have := HL4.out; have := HLE.out; omega)
        obtain ⟨s4, c4, hr4⟩ := own_sliceB HP4.out
        rw [hn4] at hr4
        subst hr4
        have HN7 : Hid ((P4 ++ [(0 : Int), 0, 0, 0]).length = n4 + 4) := hide_ (by rw [List.length_append, hn4]; rfl)
        clear hP4 hn4 kb2 kc0 kc1 kc2 hk4 HP2 HP3 hHeld X0 X1 X2 X3 X0w X1w X2w HEB
        generalize E2 = V at *
        go_wp2_with (first | (at_builtin; refine wpList_append_lit (.tmp 57) (.tmp 58) 25 rfl 5 i0 Tryz.underlying25 HI.out.1 HI.out.2.1 HI.out.2.2.1 HI.out.2.2.2 E1.heap.size (.slice s4 n4 c4) n4 (u8s P4) (by simp [Act.eval, Act.put]) V (by have := HP4.out.1; rw [HN4.out] at this; exact this) [0, 0, 0, 0] _ rfl 4 rfl (by simp [Act.eval, Act.put]) (by simp [Region.wanted]) (by have := HLE4.out; simp; omega) hbs.out ?_; intro v7 w7 own7 b7; have O7 := hide_ (show OwnB w7 E1.heap.size v7 (P4 ++ [0, 0, 0, 0]) from HP4.out.grow (fun z hz => by simp at hz; omega) (by rw [HN4.out]; exact own7)); obtain ⟨s7, c7, hr7⟩ := own_sliceB O7.out; rw [HN7.out] at hr7; subst hr7; have b7 := hide_ b7; have HB7 := hide_ (HBV.out.later (h45.out.trans b7.out)); clear own7) | (at_builtin; refine wpList_append_ownB rfl (.tmp 59) (.tmp 60) 25 rfl E1.heap.size 5 i0 Tryz.underlying25 HI.out.1 HI.out.2.1 HI.out.2.2.1 HI.out.2.2.2 (.slice s7 (n4 + 4) c7) (n4 + 4) (u8s (P4 ++ [0, 0, 0, 0])) (by simp [Act.eval, Act.put]) (by have := O7.out.1; rw [HN7.out] at this; exact this) (.slice s6 nn c6) B (by simp [Act.eval, Act.put]) (by have := HB7.out.bytes; exact this) (by have := HLE4.out; have := HNN.out; omega) (Nat.le_trans hbs.out b7.out.size) ?_; intro v8 w8 ho8 hg8; have O8 := hide_ (O7.out.grow HB7.out.2 (by rw [HN7.out]; exact ho8)); have k8 := hide_ ((kV.out.trans (b7.out.mono hwb0.out)).trans (O7.out.growB hg8 hwb0.out (Nat.le_trans kV.out.size b7.out.size))); clear ho8 hg8))
        obtain ⟨s8, c8, hv8⟩ := own_sliceB O8.out
        subst hv8
        obtain ⟨n8, hn8⟩ : ∃ n8, (P4 ++ [0, 0, 0, 0] ++ B).length = n8 := ⟨_, rfl⟩
        rw [hn8] at O8 ⊢
        have HN8 := hide_ hn8
        clear hn8
        try go_wp2
        go_roundw
        case rel => exact ⟨j + 1, s8, n8, c8, P4 ++ [0, 0, 0, 0] ++ B, by omega, by go_num, rfl, hide_ (by rw [HE8.out, ← HE.out, HBE.out, ← HPE.out]; simp [List.replicate]), HN8, hide_ (O8.out.mono hwb0.out), hide_ (all_take_snoc HA.out HX.out HO.out), k8⟩
        case measure => simp [intOf]; omega
    · have hlt' : ¬ (j : Int) < (L.length : Int) := by omega
      have e : EJ = encK L := by rw [HE.out, List.take_of_length_le (by omega)]
      have g6 : ¬ (60000 : Int) < (nb : Int) := by
        have h1 := H6.out
        rw [← e, HNB.out] at h1
        omega
      have HEE := hide_ e
      clear e
      go_wp2
      go_ret2
      exact ⟨⟨_, rfl, HEE.out ▸ HOw.out⟩, KB.out⟩
end

section
open Go Go.RowKit
set_option linter.unusedVariables false
set_option linter.unusedSimpArgs false

set_option maxRecDepth 100000 in
set_option maxHeartbeats 8000000 in
theorem rbe_no (v : Value) (L : List BK) (w : World) (hL : BuckAt w v L) (hF : BFit L) (h100 : L.length ≤ 100) (hr : L.all bkR = false) :
    Calls Tryz.prog 61 #[v] w fun e w' => e = .returned (.tuple #[.slice none 0 0, .int .i64 1]) ∧ Below w.heap.size w w' := by
  obtain ⟨s, cap, rfl, h1, h2, h3, h4⟩ := hL
  have HL := hide_ h4
  have HF := hide_ hF
  have H100 := hide_ h100
  have HR := hide_ hr
  have hm : L.length ≤ 9223372036854775807 := by omega
  have hg : ¬ (100 : Int) < (L.length : Int) := by omega
  obtain ⟨i0, hi0, hz0, hz1, hz2⟩ := info_parts info5
  have HI : Hid (Tryz.prog.info? 5 = some i0 ∧ i0.zero = some (.int .u8 0) ∧ i0.size = 1 ∧ i0.bytes = 1) := ⟨hi0, hz0, hz1, hz2⟩
  have hO0 : Hid (OwnB (w.alloc (.cells #[] 5)) w.heap.size (.slice (some ⟨w.heap.size, 0, none⟩) 0 0) []) := hide_ ⟨by have := World.ownsRow_made (base := w.heap.size) (e := 5) (size := 1) w #[] 0 (by simp) (Nat.zero_le _) rfl; simpa [u8s] using this, fun z hz => by cases hz⟩
  have hB0 := hide_ (below1 w (.cells #[] 5))
  clear hi0 hz0 hz1 hz2 h1 h2 h3 h4 hF h100 hr
  go_enter Tryz.func61, Tryz.ntmps61
  go_wp2
  go_loopw [4, 5, 6, 7] (fun b i _ _ wr => ∃ (j : Nat) (sb : Option Addr) (nb cb : Nat) (EJ : List Int), j ≤ L.length ∧ i = .int .i64 (j : Int) ∧ b = .slice sb nb cb ∧ Hid (EJ = encK (L.take j)) ∧ Hid (EJ.length = nb) ∧ Hid (OwnB wr w.heap.size (.slice sb nb cb) EJ) ∧ Hid ((L.take j).all bkR = true) ∧ Hid (Below w.heap.size w wr)) (fun _ i _ _ _ => L.length - (intOf i).toNat)
  case atStart => exact ⟨0, some ⟨w.heap.size, 0, none⟩, 0, 0, [], Nat.zero_le _, rfl, rfl, hide_ rfl, hide_ rfl, hO0, hide_ rfl, hB0⟩
  case round =>
    clear hO0 hB0
    obtain ⟨j, sb, nb, cb, EJ, hj, rfl, rfl, HE, HNB, HOw, HA, KB⟩ := hrel
    by_cases hlt : j < L.length
    · have hlt' : (j : Int) < (L.length : Int) := by omega
      have hj0 : (0 : Int) ≤ (j : Int) := by omega
      obtain ⟨⟨a1, b1, c1, M1⟩, hz1⟩ : ∃ z, L[j]? = some z := ⟨_, List.getElem?_eq_getElem hlt⟩
      obtain ⟨bq1, off1, u1, rfl, X0, X1, X2, X3, M1A⟩ := HL.out j _ hz1
      have X0 := cell_later KB.out X0
      have X1 := cell_later KB.out X1
      have X2 := cell_later KB.out X2
      have X3 := cell_later KB.out X3
      obtain ⟨su1, cu1, eu1, -⟩ := id M1A
      subst eu1
      have HX := hide_ hz1
      have M1H := hide_ (M1A.later KB.out)
      have hF1 := hide_ (HF.out _ (List.mem_of_getElem? hz1))
      have qs := fun W (hW : Below wr.heap.size wr W) => rbright_any a1 b1 c1 _ M1 W (M1H.out.later hW) hF1.out
      clear hz1 M1A
      cases ho : bkR (a1, b1, c1, M1)
      · skip
        rw [ho] at qs
        have qs := hide_ qs
        clear ho
        go_wp2_with (first | (go_at_call 101; refine (qs.out _ (Below.refl _ _)).mono ?_; rintro e w5 ⟨rfl, b5⟩; have X0 := cell_later b5 X0; have X1 := cell_later b5 X1; have X2 := cell_later b5 X2; have X3 := cell_later b5 X3))
        go_ret2
        exact ⟨rfl, KB.out.trans (b5.mono KB.out.size)⟩
      · skip
        rw [ho] at qs
        have qs := hide_ qs
        obtain ⟨hp1, hp2, h1, h2, h3⟩ := bkR_parts ho
        have h1 : rightB a1 2 = true := h1
        have h2 : rightB b1 4 = true := h2
        have h3 : rightB c1 4 = true := h3
        have hl6 := encA_6000 hF1.out hp1 hp2
        have qe := fun W (hW : Below wr.heap.size wr W) => rle_yes _ M1 W (M1H.out.later hW) hF1.out hp1 hp2
        have hbe : bkE (a1, b1, c1, M1) = [] ++ spl (16 + ((encA M1).length : Int)) 2 ++ spl a1 2 ++ spl b1 4 ++ spl c1 4 ++ List.replicate 4 0 ++ encA M1 := by
          show [] ++ spl ((16 + (encA M1).length : Nat) : Int) 2 ++ _ ++ _ ++ _ ++ _ ++ _ = _
          rw [Int.natCast_add]; rfl
        have HLE : Hid (nb ≤ 601600 ∧ EJ.length = nb) := hide_ ⟨by
          have h2 := encK_len (L.take j) (fun o h => HF.out o (List.mem_of_mem_take h)) HA.out
          rw [← HE.out, HNB.out, List.length_take] at h2
          have h3 : min j L.length ≤ 100 := by have := H100.out; omega
          omega, HNB.out⟩
        have HEB := hide_ HOw.out.2
        have HO := hide_ ho
        have HE8 := hide_ (encK_take HX.out)
        simp only at hl6 qe
        generalize encA M1 = B at *
        obtain ⟨nn, hnn⟩ : ∃ nn, B.length = nn := ⟨_, rfl⟩
        have HNN := hide_ hnn
        rw [hnn] at hl6 hbe
        have HBE := hide_ hbe
        have h0 : rightB (16 + (nn : Int)) 2 = true := rightB_in2 (by omega) (by omega)
        have hw0 : IntKind.i64.wrap (16 + (nn : Int)) = 16 + (nn : Int) := by rw [IntKind.wrap_i64]; omega
        have qe := hide_ qe
        clear ho hp1 hp2 hnn hbe
        go_wp2_with (first | (go_at_call 101; refine (qs.out _ (Below.refl _ _)).mono ?_; rintro e w5 ⟨rfl, b5⟩; have X0 := cell_later b5 X0; have X1 := cell_later b5 X1; have X2 := cell_later b5 X2; have X3 := cell_later b5 X3) | (go_at_call 38; refine (qe.out _ b5).mono ?_; rintro e w6 ⟨⟨r6, rfl, hO6⟩, b6⟩; obtain ⟨s6, c6, hr6⟩ := own_sliceB hO6; rw [HNN.out] at hr6; subst hr6; have HO6 := hide_ hO6; have j6 := hide_ (b5.trans (b6.mono b5.size)); have X0w := cell_later b6 X0; have X1w := cell_later b6 X1; have X2w := cell_later b6 X2; clear hO6))
        try simp only [Act.put]
        refine wp_region_held_drew (S := (fun w' => Below w6.heap.size w6 w')) (by kernel_rfl) ((Below.refl _ _).drew) (fun hHeld => ?_)
        have kb0 : Below w6.heap.size w6 w6.drew := (Below.refl _ _).drew
        generalize w6.drew = D0 at *
        refine takeR (i := 0) (v := ?_) rfl (by kernel_rfl) (by kernel_rfl) (by kernel_rfl) (some 33) rfl (Or.inl ⟨by rfl, ?_⟩) (fun _ _ _ h => h) (by assumption) ?_
        rotate_left
        · intro w hSw; (try dsimp only at hSw); go_simp; (try with_reducible rfl)
        simp only [Act.put, List.setIfInBounds_toArray, List.set_cons_zero, List.set_cons_succ]
        refine takeR (i := 1) (v := ?_) rfl (by kernel_rfl) (by kernel_rfl) (by kernel_rfl) (some 34) rfl (Or.inl ⟨by rfl, ?_⟩) (fun _ _ _ h => h) (by assumption) ?_
        rotate_left
        · intro w hSw; (try dsimp only at hSw); go_simp; (try with_reducible rfl)
        simp only [Act.put, List.setIfInBounds_toArray, List.set_cons_zero, List.set_cons_succ]
        refine takeR (i := 2) (v := ?_) rfl (by kernel_rfl) (by kernel_rfl) (by kernel_rfl) (some 35) rfl (Or.inl ⟨by rfl, ?_⟩) (fun _ _ _ h => h) (by assumption) ?_
        rotate_left
        · intro w hSw; (try dsimp only at hSw); go_simp; (try with_reducible rfl)
        simp only [Act.put, List.setIfInBounds_toArray, List.set_cons_zero, List.set_cons_succ]
        refine takeR (i := 3) (v := ?_) rfl (by kernel_rfl) (by kernel_rfl) (by kernel_rfl) (some 36) rfl (Or.inl ⟨by rfl, ?_⟩) (fun _ _ _ h => h) (by assumption) ?_
        rotate_left
        · intro w hSw; (try dsimp only at hSw); go_simp; (try with_reducible rfl)
        simp only [Act.put, List.setIfInBounds_toArray, List.set_cons_zero, List.set_cons_succ]
        refine takeR (i := 5) (v := ?_) rfl (by kernel_rfl) (by kernel_rfl) (by kernel_rfl) (some 38) rfl (Or.inl ⟨by rfl, ?_⟩) (fun _ _ _ h => h) (by assumption) ?_
        rotate_left
        · intro w hSw; (try dsimp only at hSw); go_simp; (try with_reducible rfl)
        simp only [Act.put, List.setIfInBounds_toArray, List.set_cons_zero, List.set_cons_succ]
        refine takeR (i := 6) (v := ?_) rfl (by kernel_rfl) (by kernel_rfl) (by kernel_rfl) (some 39) rfl (Or.inl ⟨by rfl, ?_⟩) (fun _ _ _ h => h) (by assumption) ?_
        rotate_left
        · intro w hSw; (try dsimp only at hSw); go_simp; (try with_reducible rfl)
        simp only [Act.put, List.setIfInBounds_toArray, List.set_cons_zero, List.set_cons_succ]
        refine takeR (i := 7) (v := ?_) rfl (by kernel_rfl) (by kernel_rfl) (by kernel_rfl) (some 40) rfl (Or.inl ⟨by rfl, ?_⟩) (fun _ _ _ h => h) (by assumption) ?_
        rotate_left
        · intro w hSw; (try dsimp only at hSw); go_simp; (try with_reducible rfl)
        simp only [Act.put, List.setIfInBounds_toArray, List.set_cons_zero, List.set_cons_succ]
        refine takeR (i := 8) (v := ?_) rfl (by kernel_rfl) (by kernel_rfl) (by kernel_rfl) (some 41) rfl (Or.inl ⟨by rfl, ?_⟩) (fun _ _ _ h => h) (by assumption) ?_
        rotate_left
        · intro w hSw; (try dsimp only at hSw); go_simp; (try with_reducible rfl)
        simp only [Act.put, List.setIfInBounds_toArray, List.set_cons_zero, List.set_cons_succ]
        refine takeR (i := 9) (v := ?_) rfl (by kernel_rfl) (by kernel_rfl) (by kernel_rfl) (some 42) rfl (Or.inl ⟨by rfl, ?_⟩) (fun _ _ _ h => h) (by assumption) ?_
        rotate_left
        · intro w hSw; (try dsimp only at hSw); have hcx := cell_later hSw X0w; go_simp; (try with_reducible rfl)
        simp only [Act.put, List.setIfInBounds_toArray, List.set_cons_zero, List.set_cons_succ]
        refine wpAnyH_ready (rs := [4]) (by kernel_rfl) (by simp) ?_
        refine AllReadyH.cons rfl (fun K hK => ?_) (AllReadyH.nil)
        go_simp
        go_at_call 36
        refine (rput_any _ EJ (16 + (nn : Int)) 2 _ ((HOw.out.later (j6.out.trans (kb0.mono j6.out.size))).bytes) (by have := HLE.out; omega) h0).mono ?_
        rintro e D1 ⟨r1, rfl, ho1, bj⟩
        refine hK.out _ _ (kb0.trans (bj.mono kb0.size)) (fun hHeld => ?_)
        clear hK K
        try simp only [Act.put, List.setIfInBounds_toArray, List.set_cons_zero, List.set_cons_succ]
        have kb1 := kb0.trans (bj.mono kb0.size)
        have HP1 : Hid (OwnB D1 D0.heap.size r1 (EJ ++ spl (16 + (nn : Int)) 2)) := hide_ ⟨ho1, HEB.out.app (isB_spl2 _)⟩
        clear bj
        refine wpAnyH_ready (rs := [10]) (by kernel_rfl) (by simp) ?_
        refine AllReadyH.cons rfl (fun K hK => ?_) (AllReadyH.nil)
        go_simp
        go_at_call 36
        refine (rput_any r1 (EJ ++ spl (16 + (nn : Int)) 2) a1 2 _ HP1.out.bytes (by have := HLE.out; simp only [List.length_append, spl_len2, spl_len4]; omega) h1).mono ?_
        rintro e D2 ⟨r2, rfl, ho2, bj⟩
        refine hK.out _ _ (kb1.trans (bj.mono kb1.size)) (fun hHeld => ?_)
        clear hK K
        try simp only [Act.put, List.setIfInBounds_toArray, List.set_cons_zero, List.set_cons_succ]
        have kb2 := kb1.trans (bj.mono kb1.size)
        have HP2 : Hid (OwnB D2 D1.heap.size r2 (EJ ++ spl (16 + (nn : Int)) 2 ++ spl a1 2)) := hide_ ⟨ho2, HP1.out.2.app (isB_spl2 _)⟩
        clear bj
        refine takeR (i := 11) (v := ?_) rfl (by kernel_rfl) (by kernel_rfl) (by kernel_rfl) (some 4) rfl (Or.inl ⟨by rfl, ?_⟩) (fun _ _ _ h => h) (by assumption) ?_
        rotate_left
        · intro w hSw; (try dsimp only at hSw); go_simp; (try with_reducible rfl)
        simp only [Act.put, List.setIfInBounds_toArray, List.set_cons_zero, List.set_cons_succ]
        refine wpAnyH_done (by kernel_rfl) ?_ _
        have X1w := cell_later kb2 X1w
        have X2w := cell_later kb2 X2w
        clear kb0 kb1 HP1 hHeld
        go_wp2_with fail
        try simp only [Act.put]
        refine wp_region_held_drew (S := (fun w' => Below D2.heap.size D2 w')) (by kernel_rfl) ((Below.refl _ _).drew) (fun hHeld => ?_)
        have kc0 : Below D2.heap.size D2 D2.drew := (Below.refl _ _).drew
        generalize D2.drew = E0 at *
        refine takeR (i := 0) (v := ?_) rfl (by kernel_rfl) (by kernel_rfl) (by kernel_rfl) (some 44) rfl (Or.inl ⟨by rfl, ?_⟩) (fun _ _ _ h => h) (by assumption) ?_
        rotate_left
        · intro w hSw; (try dsimp only at hSw); go_simp; (try with_reducible rfl)
        simp only [Act.put, List.setIfInBounds_toArray, List.set_cons_zero, List.set_cons_succ]
        refine takeR (i := 1) (v := ?_) rfl (by kernel_rfl) (by kernel_rfl) (by kernel_rfl) (some 45) rfl (Or.inl ⟨by rfl, ?_⟩) (fun _ _ _ h => h) (by assumption) ?_
        rotate_left
        · intro w hSw; (try dsimp only at hSw); go_simp; (try with_reducible rfl)
        simp only [Act.put, List.setIfInBounds_toArray, List.set_cons_zero, List.set_cons_succ]
        refine takeR (i := 2) (v := ?_) rfl (by kernel_rfl) (by kernel_rfl) (by kernel_rfl) (some 46) rfl (Or.inl ⟨by rfl, ?_⟩) (fun _ _ _ h => h) (by assumption) ?_
        rotate_left
        · intro w hSw; (try dsimp only at hSw); go_simp; (try with_reducible rfl)
        simp only [Act.put, List.setIfInBounds_toArray, List.set_cons_zero, List.set_cons_succ]
        refine takeR (i := 3) (v := ?_) rfl (by kernel_rfl) (by kernel_rfl) (by kernel_rfl) (some 47) rfl (Or.inl ⟨by rfl, ?_⟩) (fun _ _ _ h => h) (by assumption) ?_
        rotate_left
        · intro w hSw; (try dsimp only at hSw); go_simp; (try with_reducible rfl)
        simp only [Act.put, List.setIfInBounds_toArray, List.set_cons_zero, List.set_cons_succ]
        refine takeR (i := 4) (v := ?_) rfl (by kernel_rfl) (by kernel_rfl) (by kernel_rfl) (some 48) rfl (Or.inl ⟨by rfl, ?_⟩) (fun _ _ _ h => h) (by assumption) ?_
        rotate_left
        · intro w hSw; (try dsimp only at hSw); go_simp; (try with_reducible rfl)
        simp only [Act.put, List.setIfInBounds_toArray, List.set_cons_zero, List.set_cons_succ]
        refine takeR (i := 5) (v := ?_) rfl (by kernel_rfl) (by kernel_rfl) (by kernel_rfl) (some 49) rfl (Or.inl ⟨by rfl, ?_⟩) (fun _ _ _ h => h) (by assumption) ?_
        rotate_left
        · intro w hSw; (try dsimp only at hSw); have hcx := cell_later hSw X1w; go_simp; (try with_reducible rfl)
        simp only [Act.put, List.setIfInBounds_toArray, List.set_cons_zero, List.set_cons_succ]
        refine takeR (i := 7) (v := ?_) rfl (by kernel_rfl) (by kernel_rfl) (by kernel_rfl) (some 51) rfl (Or.inl ⟨by rfl, ?_⟩) (fun _ _ _ h => h) (by assumption) ?_
        rotate_left
        · intro w hSw; (try dsimp only at hSw); go_simp; (try with_reducible rfl)
        simp only [Act.put, List.setIfInBounds_toArray, List.set_cons_zero, List.set_cons_succ]
        refine takeR (i := 8) (v := ?_) rfl (by kernel_rfl) (by kernel_rfl) (by kernel_rfl) (some 52) rfl (Or.inl ⟨by rfl, ?_⟩) (fun _ _ _ h => h) (by assumption) ?_
        rotate_left
        · intro w hSw; (try dsimp only at hSw); go_simp; (try with_reducible rfl)
        simp only [Act.put, List.setIfInBounds_toArray, List.set_cons_zero, List.set_cons_succ]
        refine takeR (i := 9) (v := ?_) rfl (by kernel_rfl) (by kernel_rfl) (by kernel_rfl) (some 53) rfl (Or.inl ⟨by rfl, ?_⟩) (fun _ _ _ h => h) (by assumption) ?_
        rotate_left
        · intro w hSw; (try dsimp only at hSw); go_simp; (try with_reducible rfl)
        simp only [Act.put, List.setIfInBounds_toArray, List.set_cons_zero, List.set_cons_succ]
        refine takeR (i := 10) (v := ?_) rfl (by kernel_rfl) (by kernel_rfl) (by kernel_rfl) (some 54) rfl (Or.inl ⟨by rfl, ?_⟩) (fun _ _ _ h => h) (by assumption) ?_
        rotate_left
        · intro w hSw; (try dsimp only at hSw); go_simp; (try with_reducible rfl)
        simp only [Act.put, List.setIfInBounds_toArray, List.set_cons_zero, List.set_cons_succ]
        refine takeR (i := 11) (v := ?_) rfl (by kernel_rfl) (by kernel_rfl) (by kernel_rfl) (some 55) rfl (Or.inl ⟨by rfl, ?_⟩) (fun _ _ _ h => h) (by assumption) ?_
        rotate_left
        · intro w hSw; (try dsimp only at hSw); have hcx := cell_later hSw X2w; go_simp; (try with_reducible rfl)
        simp only [Act.put, List.setIfInBounds_toArray, List.set_cons_zero, List.set_cons_succ]
        refine wpAnyH_ready (rs := [6]) (by kernel_rfl) (by simp) ?_
        refine AllReadyH.cons rfl (fun K hK => ?_) (AllReadyH.nil)
        go_simp
        go_at_call 36
        refine (rput_any _ (EJ ++ spl (16 + (nn : Int)) 2 ++ spl a1 2) b1 4 _ ((HP2.out.later kc0).bytes) (by have := HLE.out; simp only [List.length_append, spl_len2, spl_len4]; omega) h2).mono ?_
        rintro e E1 ⟨r3, rfl, ho3, bj⟩
        refine hK.out _ _ (kc0.trans (bj.mono kc0.size)) (fun hHeld => ?_)
        clear hK K
        try simp only [Act.put, List.setIfInBounds_toArray, List.set_cons_zero, List.set_cons_succ]
        have kc1 := kc0.trans (bj.mono kc0.size)
        have HP3 : Hid (OwnB E1 E0.heap.size r3 (EJ ++ spl (16 + (nn : Int)) 2 ++ spl a1 2 ++ spl b1 4)) := hide_ ⟨ho3, HP2.out.2.app (spl_isB _ _ h2)⟩
        clear bj
        refine wpAnyH_ready (rs := [12]) (by kernel_rfl) (by simp) ?_
        refine AllReadyH.cons rfl (fun K hK => ?_) (AllReadyH.nil)
        go_simp
        go_at_call 36
        refine (rput_any r3 (EJ ++ spl (16 + (nn : Int)) 2 ++ spl a1 2 ++ spl b1 4) c1 4 _ HP3.out.bytes (by have := HLE.out; simp only [List.length_append, spl_len2, spl_len4]; omega) h3).mono ?_
        rintro e E2 ⟨r4, rfl, ho4, bj⟩
        refine hK.out _ _ (kc1.trans (bj.mono kc1.size)) (fun hHeld => ?_)
        clear hK K
        try simp only [Act.put, List.setIfInBounds_toArray, List.set_cons_zero, List.set_cons_succ]
        have kc2 := kc1.trans (bj.mono kc1.size)
        have HP4 : Hid (OwnB E2 E1.heap.size r4 (EJ ++ spl (16 + (nn : Int)) 2 ++ spl a1 2 ++ spl b1 4 ++ spl c1 4)) := hide_ ⟨ho4, HP3.out.2.app (spl_isB _ _ h3)⟩
        have h45 := hide_ bj
        have hk4 := hide_ kc2
        clear bj
        refine takeR (i := 13) (v := ?_) rfl (by kernel_rfl) (by kernel_rfl) (by kernel_rfl) (some 4) rfl (Or.inl ⟨by rfl, ?_⟩) (fun _ _ _ h => h) (by assumption) ?_
        rotate_left
        · intro w hSw; (try dsimp only at hSw); go_simp; (try with_reducible rfl)
        simp only [Act.put, List.setIfInBounds_toArray, List.set_cons_zero, List.set_cons_succ]
        refine wpAnyH_done (by kernel_rfl) ?_ _
        have HBV := hide_ ((HO6.out.later kb2).later kc1)
        have hwb : Hid (D2.heap.size ≤ E1.heap.size) := hide_ kc1.size
        have hbs : Hid (E1.heap.size ≤ E2.heap.size) := hide_ h45.out.size
        have jV := hide_ (j6.out.trans ((kb2.trans (kc2.mono kb2.size)).mono j6.out.size))
        have kV := hide_ (KB.out.trans (jV.out.mono KB.out.size))
        have hwb0 : Hid (w.heap.size ≤ E1.heap.size) := hide_ (Nat.le_trans (Nat.le_trans KB.out.size (Nat.le_trans j6.out.size kb2.size)) kc1.size)
        obtain ⟨P4, hP4⟩ : ∃ P, EJ ++ spl (16 + (nn : Int)) 2 ++ spl a1 2 ++ spl b1 4 ++ spl c1 4 = P := ⟨_, rfl⟩
        have HL4 : Hid (P4.length = nb + 12) := hide_ (by rw [← hP4]; have := HLE.out; simp only [List.length_append, spl_len2, spl_len4]; omega)
        rw [hP4] at HP4
        have HPE := hide_ hP4
        obtain ⟨n4, hn4⟩ : ∃ n4, P4.length = n4 := ⟨_, rfl⟩
        have HN4 := hide_ hn4
        have HLE4 : Hid (n4 ≤ 700000) := hide_ (by have := HL4.out; have := HLE.out; omega)
        obtain ⟨s4, c4, hr4⟩ := own_sliceB HP4.out
        rw [hn4] at hr4
        subst hr4
        have HN7 : Hid ((P4 ++ [(0 : Int), 0, 0, 0]).length = n4 + 4) := hide_ (by rw [List.length_append, hn4]; rfl)
        clear hP4 hn4 kb2 kc0 kc1 kc2 hk4 HP2 HP3 hHeld X0 X1 X2 X3 X0w X1w X2w HEB
        generalize E2 = V at *
        go_wp2_with (first | (at_builtin; refine wpList_append_lit (.tmp 57) (.tmp 58) 25 rfl 5 i0 Tryz.underlying25 HI.out.1 HI.out.2.1 HI.out.2.2.1 HI.out.2.2.2 E1.heap.size (.slice s4 n4 c4) n4 (u8s P4) (by simp [Act.eval, Act.put]) V (by have := HP4.out.1; rw [HN4.out] at this; exact this) [0, 0, 0, 0] _ rfl 4 rfl (by simp [Act.eval, Act.put]) (by simp [Region.wanted]) (by have := HLE4.out; simp; omega) hbs.out ?_; intro v7 w7 own7 b7; have O7 := hide_ (show OwnB w7 E1.heap.size v7 (P4 ++ [0, 0, 0, 0]) from HP4.out.grow (fun z hz => by simp at hz; omega) (by rw [HN4.out]; exact own7)); obtain ⟨s7, c7, hr7⟩ := own_sliceB O7.out; rw [HN7.out] at hr7; subst hr7; have b7 := hide_ b7; have HB7 := hide_ (HBV.out.later (h45.out.trans b7.out)); clear own7) | (at_builtin; refine wpList_append_ownB rfl (.tmp 59) (.tmp 60) 25 rfl E1.heap.size 5 i0 Tryz.underlying25 HI.out.1 HI.out.2.1 HI.out.2.2.1 HI.out.2.2.2 (.slice s7 (n4 + 4) c7) (n4 + 4) (u8s (P4 ++ [0, 0, 0, 0])) (by simp [Act.eval, Act.put]) (by have := O7.out.1; rw [HN7.out] at this; exact this) (.slice s6 nn c6) B (by simp [Act.eval, Act.put]) (by have := HB7.out.bytes; exact this) (by have := HLE4.out; have := HNN.out; omega) (Nat.le_trans hbs.out b7.out.size) ?_; intro v8 w8 ho8 hg8; have O8 := hide_ (O7.out.grow HB7.out.2 (by rw [HN7.out]; exact ho8)); have k8 := hide_ ((kV.out.trans (b7.out.mono hwb0.out)).trans (O7.out.growB hg8 hwb0.out (Nat.le_trans kV.out.size b7.out.size))); clear ho8 hg8))
        obtain ⟨s8, c8, hv8⟩ := own_sliceB O8.out
        subst hv8
        obtain ⟨n8, hn8⟩ : ∃ n8, (P4 ++ [0, 0, 0, 0] ++ B).length = n8 := ⟨_, rfl⟩
        rw [hn8] at O8 ⊢
        have HN8 := hide_ hn8
        clear hn8
        try go_wp2
        go_roundw
        case rel => exact ⟨j + 1, s8, n8, c8, P4 ++ [0, 0, 0, 0] ++ B, by omega, by go_num, rfl, hide_ (by rw [HE8.out, ← HE.out, HBE.out, ← HPE.out]; simp [List.replicate]), HN8, hide_ (O8.out.mono hwb0.out), hide_ (all_take_snoc HA.out HX.out HO.out), k8⟩
        case measure => simp [intOf]; omega
    · exfalso
      have h := HA.out
      rw [List.take_of_length_le (by omega), HR.out] at h
      cases h
end

section
open Go Go.RowKit
set_option linter.unusedVariables false
set_option linter.unusedSimpArgs false

set_option maxRecDepth 100000 in
set_option maxHeartbeats 8000000 in
theorem rbe_long (v : Value) (L : List BK) (w : World) (hL : BuckAt w v L) (hF : BFit L) (h100 : L.length ≤ 100) (hr : L.all bkR = true) (h6 : 60000 < (encK L).length) :
    Calls Tryz.prog 61 #[v] w fun e w' => e = .returned (.tuple #[.slice none 0 0, .int .i64 1]) ∧ Below w.heap.size w w' := by
  obtain ⟨s, cap, rfl, h1, h2, h3, h4⟩ := hL
  have HL := hide_ h4
  have HF := hide_ hF
  have H100 := hide_ h100
  have HR := hide_ hr
  have hm : L.length ≤ 9223372036854775807 := by omega
  have hg : ¬ (100 : Int) < (L.length : Int) := by omega
  have H6 := hide_ h6
  clear h6
  obtain ⟨i0, hi0, hz0, hz1, hz2⟩ := info_parts info5
  have HI : Hid (Tryz.prog.info? 5 = some i0 ∧ i0.zero = some (.int .u8 0) ∧ i0.size = 1 ∧ i0.bytes = 1) := ⟨hi0, hz0, hz1, hz2⟩
  have hO0 : Hid (OwnB (w.alloc (.cells #[] 5)) w.heap.size (.slice (some ⟨w.heap.size, 0, none⟩) 0 0) []) := hide_ ⟨by have := World.ownsRow_made (base := w.heap.size) (e := 5) (size := 1) w #[] 0 (by simp) (Nat.zero_le _) rfl; simpa [u8s] using this, fun z hz => by cases hz⟩
  have hB0 := hide_ (below1 w (.cells #[] 5))
  clear hi0 hz0 hz1 hz2 h1 h2 h3 h4 hF h100 hr
  go_enter Tryz.func61, Tryz.ntmps61
  go_wp2
  go_loopw [4, 5, 6, 7] (fun b i _ _ wr => ∃ (j : Nat) (sb : Option Addr) (nb cb : Nat) (EJ : List Int), j ≤ L.length ∧ i = .int .i64 (j : Int) ∧ b = .slice sb nb cb ∧ Hid (EJ = encK (L.take j)) ∧ Hid (EJ.length = nb) ∧ Hid (OwnB wr w.heap.size (.slice sb nb cb) EJ) ∧ Hid ((L.take j).all bkR = true) ∧ Hid (Below w.heap.size w wr)) (fun _ i _ _ _ => L.length - (intOf i).toNat)
  case atStart => exact ⟨0, some ⟨w.heap.size, 0, none⟩, 0, 0, [], Nat.zero_le _, rfl, rfl, hide_ rfl, hide_ rfl, hO0, hide_ rfl, hB0⟩
  case round =>
    clear hO0 hB0
    obtain ⟨j, sb, nb, cb, EJ, hj, rfl, rfl, HE, HNB, HOw, HA, KB⟩ := hrel
    by_cases hlt : j < L.length
    · have hlt' : (j : Int) < (L.length : Int) := by omega
      have hj0 : (0 : Int) ≤ (j : Int) := by omega
      obtain ⟨⟨a1, b1, c1, M1⟩, hz1⟩ : ∃ z, L[j]? = some z := ⟨_, List.getElem?_eq_getElem hlt⟩
      obtain ⟨bq1, off1, u1, rfl, X0, X1, X2, X3, M1A⟩ := HL.out j _ hz1
      have X0 := cell_later KB.out X0
      have X1 := cell_later KB.out X1
      have X2 := cell_later KB.out X2
      have X3 := cell_later KB.out X3
      obtain ⟨su1, cu1, eu1, -⟩ := id M1A
      subst eu1
      have HX := hide_ hz1
      have M1H := hide_ (M1A.later KB.out)
      have hF1 := hide_ (HF.out _ (List.mem_of_getElem? hz1))
      have qs := fun W (hW : Below wr.heap.size wr W) => rbright_any a1 b1 c1 _ M1 W (M1H.out.later hW) hF1.out
      clear hz1 M1A
      cases ho : bkR (a1, b1, c1, M1)
      · exfalso
        have h := all_no HX.out ho
        rw [HR.out] at h
        cases h
      · skip
        rw [ho] at qs
        have qs := hide_ qs
        obtain ⟨hp1, hp2, h1, h2, h3⟩ := bkR_parts ho
        have h1 : rightB a1 2 = true := h1
        have h2 : rightB b1 4 = true := h2
        have h3 : rightB c1 4 = true := h3
        have hl6 := encA_6000 hF1.out hp1 hp2
        have qe := fun W (hW : Below wr.heap.size wr W) => rle_yes _ M1 W (M1H.out.later hW) hF1.out hp1 hp2
        have hbe : bkE (a1, b1, c1, M1) = [] ++ spl (16 + ((encA M1).length : Int)) 2 ++ spl a1 2 ++ spl b1 4 ++ spl c1 4 ++ List.replicate 4 0 ++ encA M1 := by
          show [] ++ spl ((16 + (encA M1).length : Nat) : Int) 2 ++ _ ++ _ ++ _ ++ _ ++ _ = _
          rw [Int.natCast_add]; rfl
        have HLE : Hid (nb ≤ 601600 ∧ EJ.length = nb) := hide_ ⟨by
          have h2 := encK_len (L.take j) (fun o h => HF.out o (List.mem_of_mem_take h)) HA.out
          rw [← HE.out, HNB.out, List.length_take] at h2
          have h3 : min j L.length ≤ 100 := by have := H100.out; omega
          omega, HNB.out⟩
        have HEB := hide_ HOw.out.2
        have HO := hide_ ho
        have HE8 := hide_ (encK_take HX.out)
        simp only at hl6 qe
        generalize encA M1 = B at *
        obtain ⟨nn, hnn⟩ : ∃ nn, B.length = nn := ⟨_, rfl⟩
        have HNN := hide_ hnn
        rw [hnn] at hl6 hbe
        have HBE := hide_ hbe
        have h0 : rightB (16 + (nn : Int)) 2 = true := rightB_in2 (by omega) (by omega)
        have hw0 : IntKind.i64.wrap (16 + (nn : Int)) = 16 + (nn : Int) := by rw [IntKind.wrap_i64]; omega
        have qe := hide_ qe
        clear ho hp1 hp2 hnn hbe
        go_wp2_with (first | (go_at_call 101; refine (qs.out _ (Below.refl _ _)).mono ?_; rintro e w5 ⟨rfl, b5⟩; have X0 := cell_later b5 X0; have X1 := cell_later b5 X1; have X2 := cell_later b5 X2; have X3 := cell_later b5 X3) | (go_at_call 38; refine (qe.out _ b5).mono ?_; rintro e w6 ⟨⟨r6, rfl, hO6⟩, b6⟩; obtain ⟨s6, c6, hr6⟩ := own_sliceB hO6; rw [HNN.out] at hr6; subst hr6; have HO6 := hide_ hO6; have j6 := hide_ (b5.trans (b6.mono b5.size)); have X0w := cell_later b6 X0; have X1w := cell_later b6 X1; have X2w := cell_later b6 X2; clear hO6))
        try simp only [Act.put]
        refine wp_region_held_drew (S := (fun w' => Below w6.heap.size w6 w')) (by kernel_rfl) ((Below.refl _ _).drew) (fun hHeld => ?_)
        have kb0 : Below w6.heap.size w6 w6.drew := (Below.refl _ _).drew
        generalize w6.drew = D0 at *
        refine takeR (i := 0) (v := ?_) rfl (by kernel_rfl) (by kernel_rfl) (by kernel_rfl) (some 33) rfl (Or.inl ⟨by rfl, ?_⟩) (fun _ _ _ h => h) (by assumption) ?_
        rotate_left
        · intro w hSw; (try dsimp only at hSw); go_simp; (try with_reducible rfl)
        simp only [Act.put, List.setIfInBounds_toArray, List.set_cons_zero, List.set_cons_succ]
        refine takeR (i := 1) (v := ?_) rfl (by kernel_rfl) (by kernel_rfl) (by kernel_rfl) (some 34) rfl (Or.inl ⟨by rfl, ?_⟩) (fun _ _ _ h => h) (by assumption) ?_
        rotate_left
        · intro w hSw; (try dsimp only at hSw); go_simp; (try with_reducible rfl)
        simp only [Act.put, List.setIfInBounds_toArray, List.set_cons_zero, List.set_cons_succ]
        refine takeR (i := 2) (v := ?_) rfl (by kernel_rfl) (by kernel_rfl) (by kernel_rfl) (some 35) rfl (Or.inl ⟨by rfl, ?_⟩) (fun _ _ _ h => h) (by assumption) ?_
        rotate_left
        · intro w hSw; (try dsimp only at hSw); go_simp; (try with_reducible rfl)
        simp only [Act.put, List.setIfInBounds_toArray, List.set_cons_zero, List.set_cons_succ]
        refine takeR (i := 3) (v := ?_) rfl (by kernel_rfl) (by kernel_rfl) (by kernel_rfl) (some 36) rfl (Or.inl ⟨by rfl, ?_⟩) (fun _ _ _ h => h) (by assumption) ?_
        rotate_left
        · intro w hSw; (try dsimp only at hSw); go_simp; (try with_reducible rfl)
        simp only [Act.put, List.setIfInBounds_toArray, List.set_cons_zero, List.set_cons_succ]
        refine takeR (i := 5) (v := ?_) rfl (by kernel_rfl) (by kernel_rfl) (by kernel_rfl) (some 38) rfl (Or.inl ⟨by rfl, ?_⟩) (fun _ _ _ h => h) (by assumption) ?_
        rotate_left
        · intro w hSw; (try dsimp only at hSw); go_simp; (try with_reducible rfl)
        simp only [Act.put, List.setIfInBounds_toArray, List.set_cons_zero, List.set_cons_succ]
        refine takeR (i := 6) (v := ?_) rfl (by kernel_rfl) (by kernel_rfl) (by kernel_rfl) (some 39) rfl (Or.inl ⟨by rfl, ?_⟩) (fun _ _ _ h => h) (by assumption) ?_
        rotate_left
        · intro w hSw; (try dsimp only at hSw); go_simp; (try with_reducible rfl)
        simp only [Act.put, List.setIfInBounds_toArray, List.set_cons_zero, List.set_cons_succ]
        refine takeR (i := 7) (v := ?_) rfl (by kernel_rfl) (by kernel_rfl) (by kernel_rfl) (some 40) rfl (Or.inl ⟨by rfl, ?_⟩) (fun _ _ _ h => h) (by assumption) ?_
        rotate_left
        · intro w hSw; (try dsimp only at hSw); go_simp; (try with_reducible rfl)
        simp only [Act.put, List.setIfInBounds_toArray, List.set_cons_zero, List.set_cons_succ]
        refine takeR (i := 8) (v := ?_) rfl (by kernel_rfl) (by kernel_rfl) (by kernel_rfl) (some 41) rfl (Or.inl ⟨by rfl, ?_⟩) (fun _ _ _ h => h) (by assumption) ?_
        rotate_left
        · intro w hSw; (try dsimp only at hSw); go_simp; (try with_reducible rfl)
        simp only [Act.put, List.setIfInBounds_toArray, List.set_cons_zero, List.set_cons_succ]
        refine takeR (i := 9) (v := ?_) rfl (by kernel_rfl) (by kernel_rfl) (by kernel_rfl) (some 42) rfl (Or.inl ⟨by rfl, ?_⟩) (fun _ _ _ h => h) (by assumption) ?_
        rotate_left
        · intro w hSw; (try dsimp only at hSw); have hcx := cell_later hSw X0w; go_simp; (try with_reducible rfl)
        simp only [Act.put, List.setIfInBounds_toArray, List.set_cons_zero, List.set_cons_succ]
        refine wpAnyH_ready (rs := [4]) (by kernel_rfl) (by simp) ?_
        refine AllReadyH.cons rfl (fun K hK => ?_) (AllReadyH.nil)
        go_simp
        go_at_call 36
        refine (rput_any _ EJ (16 + (nn : Int)) 2 _ ((HOw.out.later (j6.out.trans (kb0.mono j6.out.size))).bytes) (by have := HLE.out; omega) h0).mono ?_
        rintro e D1 ⟨r1, rfl, ho1, bj⟩
        refine hK.out _ _ (kb0.trans (bj.mono kb0.size)) (fun hHeld => ?_)
        clear hK K
        try simp only [Act.put, List.setIfInBounds_toArray, List.set_cons_zero, List.set_cons_succ]
        have kb1 := kb0.trans (bj.mono kb0.size)
        have HP1 : Hid (OwnB D1 D0.heap.size r1 (EJ ++ spl (16 + (nn : Int)) 2)) := hide_ ⟨ho1, HEB.out.app (isB_spl2 _)⟩
        clear bj
        refine wpAnyH_ready (rs := [10]) (by kernel_rfl) (by simp) ?_
        refine AllReadyH.cons rfl (fun K hK => ?_) (AllReadyH.nil)
        go_simp
        go_at_call 36
        refine (rput_any r1 (EJ ++ spl (16 + (nn : Int)) 2) a1 2 _ HP1.out.bytes (by have := HLE.out; simp only [List.length_append, spl_len2, spl_len4]; omega) h1).mono ?_
        rintro e D2 ⟨r2, rfl, ho2, bj⟩
        refine hK.out _ _ (kb1.trans (bj.mono kb1.size)) (fun hHeld => ?_)
        clear hK K
        try simp only [Act.put, List.setIfInBounds_toArray, List.set_cons_zero, List.set_cons_succ]
        have kb2 := kb1.trans (bj.mono kb1.size)
        have HP2 : Hid (OwnB D2 D1.heap.size r2 (EJ ++ spl (16 + (nn : Int)) 2 ++ spl a1 2)) := hide_ ⟨ho2, HP1.out.2.app (isB_spl2 _)⟩
        clear bj
        refine takeR (i := 11) (v := ?_) rfl (by kernel_rfl) (by kernel_rfl) (by kernel_rfl) (some 4) rfl (Or.inl ⟨by rfl, ?_⟩) (fun _ _ _ h => h) (by assumption) ?_
        rotate_left
        · intro w hSw; (try dsimp only at hSw); go_simp; (try with_reducible rfl)
        simp only [Act.put, List.setIfInBounds_toArray, List.set_cons_zero, List.set_cons_succ]
        refine wpAnyH_done (by kernel_rfl) ?_ _
        have X1w := cell_later kb2 X1w
        have X2w := cell_later kb2 X2w
        clear kb0 kb1 HP1 hHeld
        go_wp2_with fail
        try simp only [Act.put]
        refine wp_region_held_drew (S := (fun w' => Below D2.heap.size D2 w')) (by kernel_rfl) ((Below.refl _ _).drew) (fun hHeld => ?_)
        have kc0 : Below D2.heap.size D2 D2.drew := (Below.refl _ _).drew
        generalize D2.drew = E0 at *
        refine takeR (i := 0) (v := ?_) rfl (by kernel_rfl) (by kernel_rfl) (by kernel_rfl) (some 44) rfl (Or.inl ⟨by rfl, ?_⟩) (fun _ _ _ h => h) (by assumption) ?_
        rotate_left
        · intro w hSw; (try dsimp only at hSw); go_simp; (try with_reducible rfl)
        simp only [Act.put, List.setIfInBounds_toArray, List.set_cons_zero, List.set_cons_succ]
        refine takeR (i := 1) (v := ?_) rfl (by kernel_rfl) (by kernel_rfl) (by kernel_rfl) (some 45) rfl (Or.inl ⟨by rfl, ?_⟩) (fun _ _ _ h => h) (by assumption) ?_
        rotate_left
        · intro w hSw; (try dsimp only at hSw); go_simp; (try with_reducible rfl)
        simp only [Act.put, List.setIfInBounds_toArray, List.set_cons_zero, List.set_cons_succ]
        refine takeR (i := 2) (v := ?_) rfl (by kernel_rfl) (by kernel_rfl) (by kernel_rfl) (some 46) rfl (Or.inl ⟨by rfl, ?_⟩) (fun _ _ _ h => h) (by assumption) ?_
        rotate_left
        · intro w hSw; (try dsimp only at hSw); go_simp; (try with_reducible rfl)
        simp only [Act.put, List.setIfInBounds_toArray, List.set_cons_zero, List.set_cons_succ]
        refine takeR (i := 3) (v := ?_) rfl (by kernel_rfl) (by kernel_rfl) (by kernel_rfl) (some 47) rfl (Or.inl ⟨by rfl, ?_⟩) (fun _ _ _ h => h) (by assumption) ?_
        rotate_left
        · intro w hSw; (try dsimp only at hSw); go_simp; (try with_reducible rfl)
        simp only [Act.put, List.setIfInBounds_toArray, List.set_cons_zero, List.set_cons_succ]
        refine takeR (i := 4) (v := ?_) rfl (by kernel_rfl) (by kernel_rfl) (by kernel_rfl) (some 48) rfl (Or.inl ⟨by rfl, ?_⟩) (fun _ _ _ h => h) (by assumption) ?_
        rotate_left
        · intro w hSw; (try dsimp only at hSw); go_simp; (try with_reducible rfl)
        simp only [Act.put, List.setIfInBounds_toArray, List.set_cons_zero, List.set_cons_succ]
        refine takeR (i := 5) (v := ?_) rfl (by kernel_rfl) (by kernel_rfl) (by kernel_rfl) (some 49) rfl (Or.inl ⟨by rfl, ?_⟩) (fun _ _ _ h => h) (by assumption) ?_
        rotate_left
        · intro w hSw; (try dsimp only at hSw); have hcx := cell_later hSw X1w; go_simp; (try with_reducible rfl)
        simp only [Act.put, List.setIfInBounds_toArray, List.set_cons_zero, List.set_cons_succ]
        refine takeR (i := 7) (v := ?_) rfl (by kernel_rfl) (by kernel_rfl) (by kernel_rfl) (some 51) rfl (Or.inl ⟨by rfl, ?_⟩) (fun _ _ _ h => h) (by assumption) ?_
        rotate_left
        · intro w hSw; (try dsimp only at hSw); go_simp; (try with_reducible rfl)
        simp only [Act.put, List.setIfInBounds_toArray, List.set_cons_zero, List.set_cons_succ]
        refine takeR (i := 8) (v := ?_) rfl (by kernel_rfl) (by kernel_rfl) (by kernel_rfl) (some 52) rfl (Or.inl ⟨by rfl, ?_⟩) (fun _ _ _ h => h) (by assumption) ?_
        rotate_left
        · intro w hSw; (try dsimp only at hSw); go_simp; (try with_reducible rfl)
        simp only [Act.put, List.setIfInBounds_toArray, List.set_cons_zero, List.set_cons_succ]
        refine takeR (i := 9) (v := ?_) rfl (by kernel_rfl) (by kernel_rfl) (by kernel_rfl) (some 53) rfl (Or.inl ⟨by rfl, ?_⟩) (fun _ _ _ h => h) (by assumption) ?_
        rotate_left
        · intro w hSw; (try dsimp only at hSw); go_simp; (try with_reducible rfl)
        simp only [Act.put, List.setIfInBounds_toArray, List.set_cons_zero, List.set_cons_succ]
        refine takeR (i := 10) (v := ?_) rfl (by kernel_rfl) (by kernel_rfl) (by kernel_rfl) (some 54) rfl (Or.inl ⟨by rfl, ?_⟩) (fun _ _ _ h => h) (by assumption) ?_
        rotate_left
        · intro w hSw; (try dsimp only at hSw); go_simp; (try with_reducible rfl)
        simp only [Act.put, List.setIfInBounds_toArray, List.set_cons_zero, List.set_cons_succ]
        refine takeR (i := 11) (v := ?_) rfl (by kernel_rfl) (by kernel_rfl) (by kernel_rfl) (some 55) rfl (Or.inl ⟨by rfl, ?_⟩) (fun _ _ _ h => h) (by assumption) ?_
        rotate_left
        · intro w hSw; (try dsimp only at hSw); have hcx := cell_later hSw X2w; go_simp; (try with_reducible rfl)
        simp only [Act.put, List.setIfInBounds_toArray, List.set_cons_zero, List.set_cons_succ]
        refine wpAnyH_ready (rs := [6]) (by kernel_rfl) (by simp) ?_
        refine AllReadyH.cons rfl (fun K hK => ?_) (AllReadyH.nil)
        go_simp
        go_at_call 36
        refine (rput_any _ (EJ ++ spl (16 + (nn : Int)) 2 ++ spl a1 2) b1 4 _ ((HP2.out.later kc0).bytes) (by have := HLE.out; simp only [List.length_append, spl_len2, spl_len4]; omega) h2).mono ?_
        rintro e E1 ⟨r3, rfl, ho3, bj⟩
        refine hK.out _ _ (kc0.trans (bj.mono kc0.size)) (fun hHeld => ?_)
        clear hK K
        try simp only [Act.put, List.setIfInBounds_toArray, List.set_cons_zero, List.set_cons_succ]
        have kc1 := kc0.trans (bj.mono kc0.size)
        have HP3 : Hid (OwnB E1 E0.heap.size r3 (EJ ++ spl (16 + (nn : Int)) 2 ++ spl a1 2 ++ spl b1 4)) := hide_ ⟨ho3, HP2.out.2.app (spl_isB _ _ h2)⟩
        clear bj
        refine wpAnyH_ready (rs := [12]) (by kernel_rfl) (by simp) ?_
        refine AllReadyH.cons rfl (fun K hK => ?_) (AllReadyH.nil)
        go_simp
        go_at_call 36
        refine (rput_any r3 (EJ ++ spl (16 + (nn : Int)) 2 ++ spl a1 2 ++ spl b1 4) c1 4 _ HP3.out.bytes (by have := HLE.out; simp only [List.length_append, spl_len2, spl_len4]; omega) h3).mono ?_
        rintro e E2 ⟨r4, rfl, ho4, bj⟩
        refine hK.out _ _ (kc1.trans (bj.mono kc1.size)) (fun hHeld => ?_)
        clear hK K
        try simp only [Act.put, List.setIfInBounds_toArray, List.set_cons_zero, List.set_cons_succ]
        have kc2 := kc1.trans (bj.mono kc1.size)
        have HP4 : Hid (OwnB E2 E1.heap.size r4 (EJ ++ spl (16 + (nn : Int)) 2 ++ spl a1 2 ++ spl b1 4 ++ spl c1 4)) := hide_ ⟨ho4, HP3.out.2.app (spl_isB _ _ h3)⟩
        have h45 := hide_ bj
        have hk4 := hide_ kc2
        clear bj
        refine takeR (i := 13) (v := ?_) rfl (by kernel_rfl) (by kernel_rfl) (by kernel_rfl) (some 4) rfl (Or.inl ⟨by rfl, ?_⟩) (fun _ _ _ h => h) (by assumption) ?_
        rotate_left
        · intro w hSw; (try dsimp only at hSw); go_simp; (try with_reducible rfl)
        simp only [Act.put, List.setIfInBounds_toArray, List.set_cons_zero, List.set_cons_succ]
        refine wpAnyH_done (by kernel_rfl) ?_ _
        have HBV := hide_ ((HO6.out.later kb2).later kc1)
        have hwb : Hid (D2.heap.size ≤ E1.heap.size) := hide_ kc1.size
        have hbs : Hid (E1.heap.size ≤ E2.heap.size) := hide_ h45.out.size
        have jV := hide_ (j6.out.trans ((kb2.trans (kc2.mono kb2.size)).mono j6.out.size))
        have kV := hide_ (KB.out.trans (jV.out.mono KB.out.size))
        have hwb0 : Hid (w.heap.size ≤ E1.heap.size) := hide_ (Nat.le_trans (Nat.le_trans KB.out.size (Nat.le_trans j6.out.size kb2.size)) kc1.size)
        obtain ⟨P4, hP4⟩ : ∃ P, EJ ++ spl (16 + (nn : Int)) 2 ++ spl a1 2 ++ spl b1 4 ++ spl c1 4 = P := ⟨_, rfl⟩
        have HL4 : Hid (P4.length = nb + 12) := hide_ (by rw [← hP4]; have := HLE.out; simp only [List.length_append, spl_len2, spl_len4]; omega)
        rw [hP4] at HP4
        have HPE := hide_ hP4
        obtain ⟨n4, hn4⟩ : ∃ n4, P4.length = n4 := ⟨_, rfl⟩
        have HN4 := hide_ hn4
        have HLE4 : Hid (n4 ≤ 700000) := hide_ (by have := HL4.out; have := HLE.out; omega)
        obtain ⟨s4, c4, hr4⟩ := own_sliceB HP4.out
        rw [hn4] at hr4
        subst hr4
        have HN7 : Hid ((P4 ++ [(0 : Int), 0, 0, 0]).length = n4 + 4) := hide_ (by rw [List.length_append, hn4]; rfl)
        clear hP4 hn4 kb2 kc0 kc1 kc2 hk4 HP2 HP3 hHeld X0 X1 X2 X3 X0w X1w X2w HEB
        generalize E2 = V at *
        go_wp2_with (first | (at_builtin; refine wpList_append_lit (.tmp 57) (.tmp 58) 25 rfl 5 i0 Tryz.underlying25 HI.out.1 HI.out.2.1 HI.out.2.2.1 HI.out.2.2.2 E1.heap.size (.slice s4 n4 c4) n4 (u8s P4) (by simp [Act.eval, Act.put]) V (by have := HP4.out.1; rw [HN4.out] at this; exact this) [0, 0, 0, 0] _ rfl 4 rfl (by simp [Act.eval, Act.put]) (by simp [Region.wanted]) (by have := HLE4.out; simp; omega) hbs.out ?_; intro v7 w7 own7 b7; have O7 := hide_ (show OwnB w7 E1.heap.size v7 (P4 ++ [0, 0, 0, 0]) from HP4.out.grow (fun z hz => by simp at hz; omega) (by rw [HN4.out]; exact own7)); obtain ⟨s7, c7, hr7⟩ := own_sliceB O7.out; rw [HN7.out] at hr7; subst hr7; have b7 := hide_ b7; have HB7 := hide_ (HBV.out.later (h45.out.trans b7.out)); clear own7) | (at_builtin; refine wpList_append_ownB rfl (.tmp 59) (.tmp 60) 25 rfl E1.heap.size 5 i0 Tryz.underlying25 HI.out.1 HI.out.2.1 HI.out.2.2.1 HI.out.2.2.2 (.slice s7 (n4 + 4) c7) (n4 + 4) (u8s (P4 ++ [0, 0, 0, 0])) (by simp [Act.eval, Act.put]) (by have := O7.out.1; rw [HN7.out] at this; exact this) (.slice s6 nn c6) B (by simp [Act.eval, Act.put]) (by have := HB7.out.bytes; exact this) (by have := HLE4.out; have := HNN.out; omega) (Nat.le_trans hbs.out b7.out.size) ?_; intro v8 w8 ho8 hg8; have O8 := hide_ (O7.out.grow HB7.out.2 (by rw [HN7.out]; exact ho8)); have k8 := hide_ ((kV.out.trans (b7.out.mono hwb0.out)).trans (O7.out.growB hg8 hwb0.out (Nat.le_trans kV.out.size b7.out.size))); clear ho8 hg8))
        obtain ⟨s8, c8, hv8⟩ := own_sliceB O8.out
        subst hv8
        obtain ⟨n8, hn8⟩ : ∃ n8, (P4 ++ [0, 0, 0, 0] ++ B).length = n8 := ⟨_, rfl⟩
        rw [hn8] at O8 ⊢
        have HN8 := hide_ hn8
        clear hn8
        try go_wp2
        go_roundw
        case rel => exact ⟨j + 1, s8, n8, c8, P4 ++ [0, 0, 0, 0] ++ B, by omega, by go_num, rfl, hide_ (by rw [HE8.out, ← HE.out, HBE.out, ← HPE.out]; simp [List.replicate]), HN8, hide_ (O8.out.mono hwb0.out), hide_ (all_take_snoc HA.out HX.out HO.out), k8⟩
        case measure => simp [intOf]; omega
    · have hlt' : ¬ (j : Int) < (L.length : Int) := by omega
      have e : EJ = encK L := by rw [HE.out, List.take_of_length_le (by omega)]
      have g6 : (60000 : Int) < (nb : Int) := by
        have h1 := H6.out
        rw [← e, HNB.out] at h1
        omega
      have HEE := hide_ e
      clear e
      go_wp2
      go_ret2
      exact ⟨rfl, KB.out⟩
end

section
open Go Go.RowKit
set_option linter.unusedVariables false
set_option linter.unusedSimpArgs false

set_option maxRecDepth 100000 in
set_option maxHeartbeats 8000000 in
theorem rbe_big (v : Value) (L : List BK) (w : World) (hL : BuckAt w v L) (h : 100 < L.length) :
    Calls Tryz.prog 61 #[v] w fun e w' => e = .returned (.tuple #[.slice none 0 0, .int .i64 1]) ∧ Below w.heap.size w w' := by
  obtain ⟨s, cap, rfl, h1, h2, h3, h4⟩ := hL
  have hg : (100 : Int) < (L.length : Int) := by omega
  clear h1 h2 h3 h4 h
  go_enter Tryz.func61, Tryz.ntmps61
  go_wp2
  go_ret2
  exact ⟨rfl, Below.refl _ _⟩
theorem rbe_all {v : Value} {L : List BK} {B : List Int} {er : Int} {w : World} (hL : BuckAt w v L) (hF : BFit L) (h : bencR L B er) : Calls Tryz.prog 61 #[v] w fun e w' => ∃ r, e = .returned (.tuple #[r, .int .i64 er]) ∧ OwnB w' w.heap.size r B ∧ Below w.heap.size w w' := by
  rcases h with ⟨h1, h2, h3, rfl, rfl⟩ | ⟨h, rfl, rfl⟩
  · exact (rbe_yes v L w hL hF h1 h2 h3).mono fun e w' ⟨⟨r, h1, h2⟩, h3⟩ => ⟨r, h1, h2, h3⟩
  · have key : ∀ (e : Ending) (w' : World), e = .returned (.tuple #[.slice none 0 0, .int .i64 1]) ∧ Below w.heap.size w w' → ∃ r, e = .returned (.tuple #[r, .int .i64 1]) ∧ OwnB w' w.heap.size r [] ∧ Below w.heap.size w w' := fun e w' he => ⟨_, he.1, own_nilB _ _, he.2⟩
    by_cases h100 : L.length ≤ 100
    · cases hr : L.all bkR
      · exact (rbe_no v L w hL hF h100 hr).mono key
      · exact (rbe_long v L w hL hF h100 hr (by
          apply Nat.lt_of_not_le
          intro h6
          exact h ⟨h100, hr, h6⟩)).mono key
    · exact (rbe_big v L w hL (by omega)).mono key
end

section
open Go Go.RowKit
set_option linter.unusedVariables false
set_option linter.unusedSimpArgs false

set_option maxRecDepth 100000 in
set_option maxHeartbeats 8000000 in
theorem rblsame_any (v u : Value) (L K : List BK) (w : World) (hL : BuckAt w v L) (hK : BuckAt w u K) :
    Calls Tryz.prog 65 #[v, u] w fun e w' => e = .returned (.bool (sameBL L K)) ∧ Below w.heap.size w w' := by
  obtain ⟨s, cap, rfl, h1, h2, h3, h4⟩ := hL
  obtain ⟨s2, cap2, rfl, k1, k2, k3, k4⟩ := hK
  have HL := hide_ h4
  have HK := hide_ k4
  have hm : L.length ≤ 9223372036854775807 := by unfold maxLen at h2; omega
  have hm2 : K.length ≤ 9223372036854775807 := by unfold maxLen at k2; omega
  clear h1 h2 h3 h4 k1 k2 k3 k4
  by_cases hlen : L.length = K.length
  · have HE := hide_ hlen
    rw [← hlen]
    have g0 : ((L.length : Int) != (L.length : Int)) = false := by simp
    clear hlen hm2
    obtain ⟨R, hR⟩ : ∃ R, sameBL L K = R := ⟨_, rfl⟩
    rw [hR]
    have HR := hide_ hR
    clear hR
    go_enter Tryz.func65, Tryz.ntmps65
    go_wp2
    go_loopw [5] (fun i wr => ∃ k : Nat, k ≤ L.length ∧ i = .int .i64 k ∧ Hid (L.take k = K.take k) ∧ Below w.heap.size w wr) (fun i _ => L.length - (intOf i).toNat)
    case atStart => exact ⟨0, Nat.zero_le _, rfl, hide_ rfl, Below.refl _ _⟩
    case round =>
      obtain ⟨j, hk, rfl, HT, hb⟩ := hrel
      by_cases hlt : j < L.length
      · have hlt2 : j < K.length := by have := HE.out; omega
        have hj0 : (0 : Int) ≤ (j : Int) := by omega
        obtain ⟨⟨a1, b1, c1, M1⟩, hz1⟩ : ∃ z, L[j]? = some z := ⟨_, List.getElem?_eq_getElem hlt⟩
        obtain ⟨bq1, off1, u1, rfl, X0, X1, X2, X3, M1A⟩ := HL.out j _ hz1
        have X0 := cell_later hb X0
        have X1 := cell_later hb X1
        have X2 := cell_later hb X2
        have X3 := cell_later hb X3
        obtain ⟨su1, cu1, eu1, -⟩ := id M1A
        subst eu1
        obtain ⟨⟨a2, b2, c2, M2⟩, hz2⟩ : ∃ z, K[j]? = some z := ⟨_, List.getElem?_eq_getElem hlt2⟩
        obtain ⟨bq2, off2, u2, rfl, Y0, Y1, Y2, Y3, M2A⟩ := HK.out j _ hz2
        have Y0 := cell_later hb Y0
        have Y1 := cell_later hb Y1
        have Y2 := cell_later hb Y2
        have Y3 := cell_later hb Y3
        obtain ⟨su2, cu2, eu2, -⟩ := id M2A
        subst eu2
        have HX := hide_ hz1
        have HY := hide_ hz2
        have M1H := hide_ (M1A.later hb)
        have M2H := hide_ (M2A.later hb)
        clear hz1 hz2 hlt2 M1A M2A
        have hlt' : (j : Int) < (L.length : Int) := by omega
        by_cases e1 : a1 = a2
        · have d1 : (a1 != a2) = false := by simpa using e1
          by_cases e2 : b1 = b2
          · have d2 : (b1 != b2) = false := by simpa using e2
            by_cases e3 : c1 = c2
            · have d3 : (c1 != c2) = false := by simpa using e3
              have E123 := hide_ (And.intro e1 (And.intro e2 e3))
              clear e1 e2 e3
              have qs := fun W (hW : Below wr.heap.size wr W) => rlsame_any _ _ M1 M2 W (M1H.out.later hW) (M2H.out.later hW)
              cases hd : sameL M1 M2
              · rw [hd] at qs
                have qs := hide_ qs
                have HD : Hid (¬ ((a1, b1, c1, M1) : BK) = (a2, b2, c2, M2)) := hide_ (fun h => by
                  have : M1 = M2 := congrArg (fun o : BK => o.2.2.2) h
                  rw [sameL_true this] at hd
                  cases hd)
                clear hd
                go_wp2_with fail
                try simp only [Act.put]
                refine wp_region_held_drew (S := (fun w' => Below wr.heap.size wr w')) (by kernel_rfl) ((Below.refl _ _).drew) (fun hHeld => ?_)
                have kb0 : Below wr.heap.size wr wr.drew := (Below.refl _ _).drew
                generalize wr.drew = D0 at *
                refine takeR (i := 0) (v := ?_) rfl (by kernel_rfl) (by kernel_rfl) (by kernel_rfl) (some 17) rfl (Or.inl ⟨by rfl, ?_⟩) (fun _ _ _ h => h) (by assumption) ?_
                rotate_left
                · intro w hSw; (try dsimp only at hSw); go_simp; (try with_reducible rfl)
                simp only [Act.put, List.setIfInBounds_toArray, List.set_cons_zero, List.set_cons_succ]
                refine takeR (i := 1) (v := ?_) rfl (by kernel_rfl) (by kernel_rfl) (by kernel_rfl) (some 18) rfl (Or.inl ⟨by rfl, ?_⟩) (fun _ _ _ h => h) (by assumption) ?_
                rotate_left
                · intro w hSw; (try dsimp only at hSw); go_simp; (try with_reducible rfl)
                simp only [Act.put, List.setIfInBounds_toArray, List.set_cons_zero, List.set_cons_succ]
                refine takeR (i := 2) (v := ?_) rfl (by kernel_rfl) (by kernel_rfl) (by kernel_rfl) (some 19) rfl (Or.inl ⟨by rfl, ?_⟩) (fun _ _ _ h => h) (by assumption) ?_
                rotate_left
                · intro w hSw; (try dsimp only at hSw); go_simp; (try with_reducible rfl)
                simp only [Act.put, List.setIfInBounds_toArray, List.set_cons_zero, List.set_cons_succ]
                refine takeR (i := 3) (v := ?_) rfl (by kernel_rfl) (by kernel_rfl) (by kernel_rfl) (some 20) rfl (Or.inl ⟨by rfl, ?_⟩) (fun _ _ _ h => h) (by assumption) ?_
                rotate_left
                · intro w hSw; (try dsimp only at hSw); go_simp; (try with_reducible rfl)
                simp only [Act.put, List.setIfInBounds_toArray, List.set_cons_zero, List.set_cons_succ]
                refine takeR (i := 4) (v := ?_) rfl (by kernel_rfl) (by kernel_rfl) (by kernel_rfl) (some 21) rfl (Or.inl ⟨by rfl, ?_⟩) (fun _ _ _ h => h) (by assumption) ?_
                rotate_left
                · intro w hSw; (try dsimp only at hSw); have hcx := cell_later hSw X0; go_simp; (try with_reducible rfl)
                simp only [Act.put, List.setIfInBounds_toArray, List.set_cons_zero, List.set_cons_succ]
                refine takeR (i := 5) (v := ?_) rfl (by kernel_rfl) (by kernel_rfl) (by kernel_rfl) (some 22) rfl (Or.inl ⟨by rfl, ?_⟩) (fun _ _ _ h => h) (by assumption) ?_
                rotate_left
                · intro w hSw; (try dsimp only at hSw); go_simp; (try with_reducible rfl)
                simp only [Act.put, List.setIfInBounds_toArray, List.set_cons_zero, List.set_cons_succ]
                refine takeR (i := 6) (v := ?_) rfl (by kernel_rfl) (by kernel_rfl) (by kernel_rfl) (some 23) rfl (Or.inl ⟨by rfl, ?_⟩) (fun _ _ _ h => h) (by assumption) ?_
                rotate_left
                · intro w hSw; (try dsimp only at hSw); go_simp; (try with_reducible rfl)
                simp only [Act.put, List.setIfInBounds_toArray, List.set_cons_zero, List.set_cons_succ]
                refine takeR (i := 7) (v := ?_) rfl (by kernel_rfl) (by kernel_rfl) (by kernel_rfl) (some 24) rfl (Or.inl ⟨by rfl, ?_⟩) (fun _ _ _ h => h) (by assumption) ?_
                rotate_left
                · intro w hSw; (try dsimp only at hSw); go_simp; (try with_reducible rfl)
                simp only [Act.put, List.setIfInBounds_toArray, List.set_cons_zero, List.set_cons_succ]
                refine takeR (i := 8) (v := ?_) rfl (by kernel_rfl) (by kernel_rfl) (by kernel_rfl) (some 25) rfl (Or.inl ⟨by rfl, ?_⟩) (fun _ _ _ h => h) (by assumption) ?_
                rotate_left
                · intro w hSw; (try dsimp only at hSw); go_simp; (try with_reducible rfl)
                simp only [Act.put, List.setIfInBounds_toArray, List.set_cons_zero, List.set_cons_succ]
                refine takeR (i := 9) (v := ?_) rfl (by kernel_rfl) (by kernel_rfl) (by kernel_rfl) (some 26) rfl (Or.inl ⟨by rfl, ?_⟩) (fun _ _ _ h => h) (by assumption) ?_
                rotate_left
                · intro w hSw; (try dsimp only at hSw); have hcx := cell_later hSw Y0; go_simp; (try with_reducible rfl)
                simp only [Act.put, List.setIfInBounds_toArray, List.set_cons_zero, List.set_cons_succ]
                refine takeR (i := 10) (v := ?_) rfl (by kernel_rfl) (by kernel_rfl) (by kernel_rfl) (some 27) rfl (Or.inl ⟨by rfl, ?_⟩) (fun _ _ _ h => h) (by assumption) ?_
                rotate_left
                · intro w hSw; (try dsimp only at hSw); go_simp; (try with_reducible rfl)
                simp only [Act.put, List.setIfInBounds_toArray, List.set_cons_zero, List.set_cons_succ]
                refine takeR (i := 11) (v := ?_) rfl (by kernel_rfl) (by kernel_rfl) (by kernel_rfl) (some 28) rfl (Or.inl ⟨by rfl, ?_⟩) (fun _ _ _ h => h) (by assumption) ?_
                rotate_left
                · intro w hSw; (try dsimp only at hSw); go_simp; (try with_reducible rfl)
                simp only [Act.put, List.setIfInBounds_toArray, List.set_cons_zero, List.set_cons_succ]
                refine takeR (i := 12) (v := ?_) rfl (by kernel_rfl) (by kernel_rfl) (by kernel_rfl) (some 29) rfl (Or.inl ⟨by rfl, ?_⟩) (fun _ _ _ h => h) (by assumption) ?_
                rotate_left
                · intro w hSw; (try dsimp only at hSw); go_simp; (try with_reducible rfl)
                simp only [Act.put, List.setIfInBounds_toArray, List.set_cons_zero, List.set_cons_succ]
                refine takeR (i := 13) (v := ?_) rfl (by kernel_rfl) (by kernel_rfl) (by kernel_rfl) (some 30) rfl (Or.inl ⟨by rfl, ?_⟩) (fun _ _ _ h => h) (by assumption) ?_
                rotate_left
                · intro w hSw; (try dsimp only at hSw); go_simp; (try with_reducible rfl)
                simp only [Act.put, List.setIfInBounds_toArray, List.set_cons_zero, List.set_cons_succ]
                refine takeR (i := 14) (v := ?_) rfl (by kernel_rfl) (by kernel_rfl) (by kernel_rfl) (some 31) rfl (Or.inl ⟨by rfl, ?_⟩) (fun _ _ _ h => h) (by assumption) ?_
                rotate_left
                · intro w hSw; (try dsimp only at hSw); go_simp; (try with_reducible rfl)
                simp only [Act.put, List.setIfInBounds_toArray, List.set_cons_zero, List.set_cons_succ]
                refine takeR (i := 15) (v := ?_) rfl (by kernel_rfl) (by kernel_rfl) (by kernel_rfl) (some 32) rfl (Or.inl ⟨by rfl, ?_⟩) (fun _ _ _ h => h) (by assumption) ?_
                rotate_left
                · intro w hSw; (try dsimp only at hSw); go_simp; (try with_reducible rfl)
                simp only [Act.put, List.setIfInBounds_toArray, List.set_cons_zero, List.set_cons_succ]
                refine takeR (i := 16) (v := ?_) rfl (by kernel_rfl) (by kernel_rfl) (by kernel_rfl) (some 33) rfl (Or.inl ⟨by rfl, ?_⟩) (fun _ _ _ h => h) (by assumption) ?_
                rotate_left
                · intro w hSw; (try dsimp only at hSw); have hcx := cell_later hSw X1; go_simp; (try with_reducible rfl)
                simp only [Act.put, List.setIfInBounds_toArray, List.set_cons_zero, List.set_cons_succ]
                refine takeR (i := 17) (v := ?_) rfl (by kernel_rfl) (by kernel_rfl) (by kernel_rfl) (some 34) rfl (Or.inl ⟨by rfl, ?_⟩) (fun _ _ _ h => h) (by assumption) ?_
                rotate_left
                · intro w hSw; (try dsimp only at hSw); go_simp; (try with_reducible rfl)
                simp only [Act.put, List.setIfInBounds_toArray, List.set_cons_zero, List.set_cons_succ]
                refine takeR (i := 18) (v := ?_) rfl (by kernel_rfl) (by kernel_rfl) (by kernel_rfl) (some 35) rfl (Or.inl ⟨by rfl, ?_⟩) (fun _ _ _ h => h) (by assumption) ?_
                rotate_left
                · intro w hSw; (try dsimp only at hSw); go_simp; (try with_reducible rfl)
                simp only [Act.put, List.setIfInBounds_toArray, List.set_cons_zero, List.set_cons_succ]
                refine takeR (i := 19) (v := ?_) rfl (by kernel_rfl) (by kernel_rfl) (by kernel_rfl) (some 36) rfl (Or.inl ⟨by rfl, ?_⟩) (fun _ _ _ h => h) (by assumption) ?_
                rotate_left
                · intro w hSw; (try dsimp only at hSw); go_simp; (try with_reducible rfl)
                simp only [Act.put, List.setIfInBounds_toArray, List.set_cons_zero, List.set_cons_succ]
                refine takeR (i := 20) (v := ?_) rfl (by kernel_rfl) (by kernel_rfl) (by kernel_rfl) (some 37) rfl (Or.inl ⟨by rfl, ?_⟩) (fun _ _ _ h => h) (by assumption) ?_
                rotate_left
                · intro w hSw; (try dsimp only at hSw); go_simp; (try with_reducible rfl)
                simp only [Act.put, List.setIfInBounds_toArray, List.set_cons_zero, List.set_cons_succ]
                refine takeR (i := 21) (v := ?_) rfl (by kernel_rfl) (by kernel_rfl) (by kernel_rfl) (some 38) rfl (Or.inl ⟨by rfl, ?_⟩) (fun _ _ _ h => h) (by assumption) ?_
                rotate_left
                · intro w hSw; (try dsimp only at hSw); have hcx := cell_later hSw Y1; go_simp; (try with_reducible rfl)
                simp only [Act.put, List.setIfInBounds_toArray, List.set_cons_zero, List.set_cons_succ]
                refine takeR (i := 22) (v := ?_) rfl (by kernel_rfl) (by kernel_rfl) (by kernel_rfl) (some 39) rfl (Or.inl ⟨by rfl, ?_⟩) (fun _ _ _ h => h) (by assumption) ?_
                rotate_left
                · intro w hSw; (try dsimp only at hSw); go_simp; (try with_reducible rfl)
                simp only [Act.put, List.setIfInBounds_toArray, List.set_cons_zero, List.set_cons_succ]
                refine takeR (i := 23) (v := ?_) rfl (by kernel_rfl) (by kernel_rfl) (by kernel_rfl) (some 40) rfl (Or.inl ⟨by rfl, ?_⟩) (fun _ _ _ h => h) (by assumption) ?_
                rotate_left
                · intro w hSw; (try dsimp only at hSw); go_simp; (try with_reducible rfl)
                simp only [Act.put, List.setIfInBounds_toArray, List.set_cons_zero, List.set_cons_succ]
                refine takeR (i := 24) (v := ?_) rfl (by kernel_rfl) (by kernel_rfl) (by kernel_rfl) (some 41) rfl (Or.inl ⟨by rfl, ?_⟩) (fun _ _ _ h => h) (by assumption) ?_
                rotate_left
                · intro w hSw; (try dsimp only at hSw); go_simp; (try with_reducible rfl)
                simp only [Act.put, List.setIfInBounds_toArray, List.set_cons_zero, List.set_cons_succ]
                refine takeR (i := 25) (v := ?_) rfl (by kernel_rfl) (by kernel_rfl) (by kernel_rfl) (some 42) rfl (Or.inl ⟨by rfl, ?_⟩) (fun _ _ _ h => h) (by assumption) ?_
                rotate_left
                · intro w hSw; (try dsimp only at hSw); go_simp; (try with_reducible rfl)
                simp only [Act.put, List.setIfInBounds_toArray, List.set_cons_zero, List.set_cons_succ]
                refine takeR (i := 26) (v := ?_) rfl (by kernel_rfl) (by kernel_rfl) (by kernel_rfl) (some 43) rfl (Or.inl ⟨by rfl, ?_⟩) (fun _ _ _ h => h) (by assumption) ?_
                rotate_left
                · intro w hSw; (try dsimp only at hSw); go_simp; (try with_reducible rfl)
                simp only [Act.put, List.setIfInBounds_toArray, List.set_cons_zero, List.set_cons_succ]
                refine takeR (i := 27) (v := ?_) rfl (by kernel_rfl) (by kernel_rfl) (by kernel_rfl) (some 44) rfl (Or.inl ⟨by rfl, ?_⟩) (fun _ _ _ h => h) (by assumption) ?_
                rotate_left
                · intro w hSw; (try dsimp only at hSw); go_simp; (try with_reducible rfl)
                simp only [Act.put, List.setIfInBounds_toArray, List.set_cons_zero, List.set_cons_succ]
                refine takeR (i := 28) (v := ?_) rfl (by kernel_rfl) (by kernel_rfl) (by kernel_rfl) (some 45) rfl (Or.inl ⟨by rfl, ?_⟩) (fun _ _ _ h => h) (by assumption) ?_
                rotate_left
                · intro w hSw; (try dsimp only at hSw); go_simp; (try with_reducible rfl)
                simp only [Act.put, List.setIfInBounds_toArray, List.set_cons_zero, List.set_cons_succ]
                refine takeR (i := 29) (v := ?_) rfl (by kernel_rfl) (by kernel_rfl) (by kernel_rfl) (some 46) rfl (Or.inl ⟨by rfl, ?_⟩) (fun _ _ _ h => h) (by assumption) ?_
                rotate_left
                · intro w hSw; (try dsimp only at hSw); have hcx := cell_later hSw X2; go_simp; (try with_reducible rfl)
                simp only [Act.put, List.setIfInBounds_toArray, List.set_cons_zero, List.set_cons_succ]
                refine takeR (i := 30) (v := ?_) rfl (by kernel_rfl) (by kernel_rfl) (by kernel_rfl) (some 47) rfl (Or.inl ⟨by rfl, ?_⟩) (fun _ _ _ h => h) (by assumption) ?_
                rotate_left
                · intro w hSw; (try dsimp only at hSw); go_simp; (try with_reducible rfl)
                simp only [Act.put, List.setIfInBounds_toArray, List.set_cons_zero, List.set_cons_succ]
                refine takeR (i := 31) (v := ?_) rfl (by kernel_rfl) (by kernel_rfl) (by kernel_rfl) (some 48) rfl (Or.inl ⟨by rfl, ?_⟩) (fun _ _ _ h => h) (by assumption) ?_
                rotate_left
                · intro w hSw; (try dsimp only at hSw); go_simp; (try with_reducible rfl)
                simp only [Act.put, List.setIfInBounds_toArray, List.set_cons_zero, List.set_cons_succ]
                refine takeR (i := 32) (v := ?_) rfl (by kernel_rfl) (by kernel_rfl) (by kernel_rfl) (some 49) rfl (Or.inl ⟨by rfl, ?_⟩) (fun _ _ _ h => h) (by assumption) ?_
                rotate_left
                · intro w hSw; (try dsimp only at hSw); go_simp; (try with_reducible rfl)
                simp only [Act.put, List.setIfInBounds_toArray, List.set_cons_zero, List.set_cons_succ]
                refine takeR (i := 33) (v := ?_) rfl (by kernel_rfl) (by kernel_rfl) (by kernel_rfl) (some 50) rfl (Or.inl ⟨by rfl, ?_⟩) (fun _ _ _ h => h) (by assumption) ?_
                rotate_left
                · intro w hSw; (try dsimp only at hSw); go_simp; (try with_reducible rfl)
                simp only [Act.put, List.setIfInBounds_toArray, List.set_cons_zero, List.set_cons_succ]
                refine takeR (i := 34) (v := ?_) rfl (by kernel_rfl) (by kernel_rfl) (by kernel_rfl) (some 51) rfl (Or.inl ⟨by rfl, ?_⟩) (fun _ _ _ h => h) (by assumption) ?_
                rotate_left
                · intro w hSw; (try dsimp only at hSw); have hcx := cell_later hSw Y2; go_simp; (try with_reducible rfl)
                simp only [Act.put, List.setIfInBounds_toArray, List.set_cons_zero, List.set_cons_succ]
                refine takeR (i := 35) (v := ?_) rfl (by kernel_rfl) (by kernel_rfl) (by kernel_rfl) (some 52) rfl (Or.inl ⟨by rfl, ?_⟩) (fun _ _ _ h => h) (by assumption) ?_
                rotate_left
                · intro w hSw; (try dsimp only at hSw); go_simp; (try with_reducible rfl)
                simp only [Act.put, List.setIfInBounds_toArray, List.set_cons_zero, List.set_cons_succ]
                refine takeR (i := 36) (v := ?_) rfl (by kernel_rfl) (by kernel_rfl) (by kernel_rfl) (some 53) rfl (Or.inl ⟨by rfl, ?_⟩) (fun _ _ _ h => h) (by assumption) ?_
                rotate_left
                · intro w hSw; (try dsimp only at hSw); go_simp; (try with_reducible rfl)
                simp only [Act.put, List.setIfInBounds_toArray, List.set_cons_zero, List.set_cons_succ]
                refine takeR (i := 37) (v := ?_) rfl (by kernel_rfl) (by kernel_rfl) (by kernel_rfl) (some 54) rfl (Or.inl ⟨by rfl, ?_⟩) (fun _ _ _ h => h) (by assumption) ?_
                rotate_left
                · intro w hSw; (try dsimp only at hSw); go_simp; (try with_reducible rfl)
                simp only [Act.put, List.setIfInBounds_toArray, List.set_cons_zero, List.set_cons_succ]
                refine takeR (i := 38) (v := ?_) rfl (by kernel_rfl) (by kernel_rfl) (by kernel_rfl) (some 55) rfl (Or.inl ⟨by rfl, ?_⟩) (fun _ _ _ h => h) (by assumption) ?_
                rotate_left
                · intro w hSw; (try dsimp only at hSw); go_simp; (try with_reducible rfl)
                simp only [Act.put, List.setIfInBounds_toArray, List.set_cons_zero, List.set_cons_succ]
                refine takeR (i := 39) (v := ?_) rfl (by kernel_rfl) (by kernel_rfl) (by kernel_rfl) (some 56) rfl (Or.inl ⟨by rfl, ?_⟩) (fun _ _ _ h => h) (by assumption) ?_
                rotate_left
                · intro w hSw; (try dsimp only at hSw); go_simp; (try with_reducible rfl)
                simp only [Act.put, List.setIfInBounds_toArray, List.set_cons_zero, List.set_cons_succ]
                refine takeR (i := 40) (v := ?_) rfl (by kernel_rfl) (by kernel_rfl) (by kernel_rfl) (some 57) rfl (Or.inl ⟨by rfl, ?_⟩) (fun _ _ _ h => h) (by assumption) ?_
                rotate_left
                · intro w hSw; (try dsimp only at hSw); go_simp; (try with_reducible rfl)
                simp only [Act.put, List.setIfInBounds_toArray, List.set_cons_zero, List.set_cons_succ]
                refine takeR (i := 41) (v := ?_) rfl (by kernel_rfl) (by kernel_rfl) (by kernel_rfl) (some 58) rfl (Or.inl ⟨by rfl, ?_⟩) (fun _ _ _ h => h) (by assumption) ?_
                rotate_left
                · intro w hSw; (try dsimp only at hSw); go_simp; (try with_reducible rfl)
                simp only [Act.put, List.setIfInBounds_toArray, List.set_cons_zero, List.set_cons_succ]
                refine takeR (i := 42) (v := ?_) rfl (by kernel_rfl) (by kernel_rfl) (by kernel_rfl) (some 59) rfl (Or.inl ⟨by rfl, ?_⟩) (fun _ _ _ h => h) (by assumption) ?_
                rotate_left
                · intro w hSw; (try dsimp only at hSw); have hcx := cell_later hSw X3; go_simp; (try with_reducible rfl)
                simp only [Act.put, List.setIfInBounds_toArray, List.set_cons_zero, List.set_cons_succ]
                refine takeR (i := 43) (v := ?_) rfl (by kernel_rfl) (by kernel_rfl) (by kernel_rfl) (some 60) rfl (Or.inl ⟨by rfl, ?_⟩) (fun _ _ _ h => h) (by assumption) ?_
                rotate_left
                · intro w hSw; (try dsimp only at hSw); go_simp; (try with_reducible rfl)
                simp only [Act.put, List.setIfInBounds_toArray, List.set_cons_zero, List.set_cons_succ]
                refine takeR (i := 44) (v := ?_) rfl (by kernel_rfl) (by kernel_rfl) (by kernel_rfl) (some 61) rfl (Or.inl ⟨by rfl, ?_⟩) (fun _ _ _ h => h) (by assumption) ?_
                rotate_left
                · intro w hSw; (try dsimp only at hSw); go_simp; (try with_reducible rfl)
                simp only [Act.put, List.setIfInBounds_toArray, List.set_cons_zero, List.set_cons_succ]
                refine takeR (i := 45) (v := ?_) rfl (by kernel_rfl) (by kernel_rfl) (by kernel_rfl) (some 62) rfl (Or.inl ⟨by rfl, ?_⟩) (fun _ _ _ h => h) (by assumption) ?_
                rotate_left
                · intro w hSw; (try dsimp only at hSw); go_simp; (try with_reducible rfl)
                simp only [Act.put, List.setIfInBounds_toArray, List.set_cons_zero, List.set_cons_succ]
                refine takeR (i := 46) (v := ?_) rfl (by kernel_rfl) (by kernel_rfl) (by kernel_rfl) (some 63) rfl (Or.inl ⟨by rfl, ?_⟩) (fun _ _ _ h => h) (by assumption) ?_
                rotate_left
                · intro w hSw; (try dsimp only at hSw); go_simp; (try with_reducible rfl)
                simp only [Act.put, List.setIfInBounds_toArray, List.set_cons_zero, List.set_cons_succ]
                refine takeR (i := 47) (v := ?_) rfl (by kernel_rfl) (by kernel_rfl) (by kernel_rfl) (some 64) rfl (Or.inl ⟨by rfl, ?_⟩) (fun _ _ _ h => h) (by assumption) ?_
                rotate_left
                · intro w hSw; (try dsimp only at hSw); have hcx := cell_later hSw Y3; go_simp; (try with_reducible rfl)
                simp only [Act.put, List.setIfInBounds_toArray, List.set_cons_zero, List.set_cons_succ]
                refine wpAnyH_ready (rs := [48]) (by kernel_rfl) (by simp) ?_
                refine AllReadyH.cons rfl (fun K hK => ?_) (AllReadyH.nil)
                go_simp
                go_at_call 76
                refine (qs.out _ kb0).mono ?_
                rintro e D1 ⟨rfl, bj⟩
                refine hK.out _ _ (kb0.trans (bj.mono kb0.size)) (fun hHeld => ?_)
                clear hK K
                try simp only [Act.put, List.setIfInBounds_toArray, List.set_cons_zero, List.set_cons_succ]
                have kb1 := kb0.trans (bj.mono kb0.size)
                clear bj
                refine takeR (i := 49) (v := ?_) rfl (by kernel_rfl) (by kernel_rfl) (by kernel_rfl) (some 66) rfl (Or.inl ⟨by rfl, ?_⟩) (fun _ _ _ h => h) (by assumption) ?_
                rotate_left
                · intro w hSw; (try dsimp only at hSw); go_simp; (try with_reducible rfl)
                simp only [Act.put, List.setIfInBounds_toArray, List.set_cons_zero, List.set_cons_succ]
                refine takeR (i := 50) (v := ?_) rfl (by kernel_rfl) (by kernel_rfl) (by kernel_rfl) (some 67) rfl (Or.inl ⟨by rfl, ?_⟩) (fun _ _ _ h => h) (by assumption) ?_
                rotate_left
                · intro w hSw; (try dsimp only at hSw); go_simp; (try with_reducible rfl)
                simp only [Act.put, List.setIfInBounds_toArray, List.set_cons_zero, List.set_cons_succ]
                refine wpAnyH_done (by kernel_rfl) ?_ _
                go_wp2
                go_ret
                refine ⟨?_, hb.trans (kb1.mono hb.size)⟩
                rw [← HR.out, sameBL_false (take_diffB HX.out HY.out HD.out)]
                rfl
              · rw [hd] at qs
                have qs := hide_ qs
                have HD : Hid (((a1, b1, c1, M1) : BK) = (a2, b2, c2, M2)) := hide_ (by
                  obtain ⟨i1, i2, i3⟩ := E123.out
                  rw [i1, i2, i3, sameL_eq hd])
                clear hd
                go_wp2_with fail
                try simp only [Act.put]
                refine wp_region_held_drew (S := (fun w' => Below wr.heap.size wr w')) (by kernel_rfl) ((Below.refl _ _).drew) (fun hHeld => ?_)
                have kb0 : Below wr.heap.size wr wr.drew := (Below.refl _ _).drew
                generalize wr.drew = D0 at *
                refine takeR (i := 0) (v := ?_) rfl (by kernel_rfl) (by kernel_rfl) (by kernel_rfl) (some 17) rfl (Or.inl ⟨by rfl, ?_⟩) (fun _ _ _ h => h) (by assumption) ?_
                rotate_left
                · intro w hSw; (try dsimp only at hSw); go_simp; (try with_reducible rfl)
                simp only [Act.put, List.setIfInBounds_toArray, List.set_cons_zero, List.set_cons_succ]
                refine takeR (i := 1) (v := ?_) rfl (by kernel_rfl) (by kernel_rfl) (by kernel_rfl) (some 18) rfl (Or.inl ⟨by rfl, ?_⟩) (fun _ _ _ h => h) (by assumption) ?_
                rotate_left
                · intro w hSw; (try dsimp only at hSw); go_simp; (try with_reducible rfl)
                simp only [Act.put, List.setIfInBounds_toArray, List.set_cons_zero, List.set_cons_succ]
                refine takeR (i := 2) (v := ?_) rfl (by kernel_rfl) (by kernel_rfl) (by kernel_rfl) (some 19) rfl (Or.inl ⟨by rfl, ?_⟩) (fun _ _ _ h => h) (by assumption) ?_
                rotate_left
                · intro w hSw; (try dsimp only at hSw); go_simp; (try with_reducible rfl)
                simp only [Act.put, List.setIfInBounds_toArray, List.set_cons_zero, List.set_cons_succ]
                refine takeR (i := 3) (v := ?_) rfl (by kernel_rfl) (by kernel_rfl) (by kernel_rfl) (some 20) rfl (Or.inl ⟨by rfl, ?_⟩) (fun _ _ _ h => h) (by assumption) ?_
                rotate_left
                · intro w hSw; (try dsimp only at hSw); go_simp; (try with_reducible rfl)
                simp only [Act.put, List.setIfInBounds_toArray, List.set_cons_zero, List.set_cons_succ]
                refine takeR (i := 4) (v := ?_) rfl (by kernel_rfl) (by kernel_rfl) (by kernel_rfl) (some 21) rfl (Or.inl ⟨by rfl, ?_⟩) (fun _ _ _ h => h) (by assumption) ?_
                rotate_left
                · intro w hSw; (try dsimp only at hSw); have hcx := cell_later hSw X0; go_simp; (try with_reducible rfl)
                simp only [Act.put, List.setIfInBounds_toArray, List.set_cons_zero, List.set_cons_succ]
                refine takeR (i := 5) (v := ?_) rfl (by kernel_rfl) (by kernel_rfl) (by kernel_rfl) (some 22) rfl (Or.inl ⟨by rfl, ?_⟩) (fun _ _ _ h => h) (by assumption) ?_
                rotate_left
                · intro w hSw; (try dsimp only at hSw); go_simp; (try with_reducible rfl)
                simp only [Act.put, List.setIfInBounds_toArray, List.set_cons_zero, List.set_cons_succ]
                refine takeR (i := 6) (v := ?_) rfl (by kernel_rfl) (by kernel_rfl) (by kernel_rfl) (some 23) rfl (Or.inl ⟨by rfl, ?_⟩) (fun _ _ _ h => h) (by assumption) ?_
                rotate_left
                · intro w hSw; (try dsimp only at hSw); go_simp; (try with_reducible rfl)
                simp only [Act.put, List.setIfInBounds_toArray, List.set_cons_zero, List.set_cons_succ]
                refine takeR (i := 7) (v := ?_) rfl (by kernel_rfl) (by kernel_rfl) (by kernel_rfl) (some 24) rfl (Or.inl ⟨by rfl, ?_⟩) (fun _ _ _ h => h) (by assumption) ?_
                rotate_left
                · intro w hSw; (try dsimp only at hSw); go_simp; (try with_reducible rfl)
                simp only [Act.put, List.setIfInBounds_toArray, List.set_cons_zero, List.set_cons_succ]
                refine takeR (i := 8) (v := ?_) rfl (by kernel_rfl) (by kernel_rfl) (by kernel_rfl) (some 25) rfl (Or.inl ⟨by rfl, ?_⟩) (fun _ _ _ h => h) (by assumption) ?_
                rotate_left
                · intro w hSw; (try dsimp only at hSw); go_simp; (try with_reducible rfl)
                simp only [Act.put, List.setIfInBounds_toArray, List.set_cons_zero, List.set_cons_succ]
                refine takeR (i := 9) (v := ?_) rfl (by kernel_rfl) (by kernel_rfl) (by kernel_rfl) (some 26) rfl (Or.inl ⟨by rfl, ?_⟩) (fun _ _ _ h => h) (by assumption) ?_
                rotate_left
                · intro w hSw; (try dsimp only at hSw); have hcx := cell_later hSw Y0; go_simp; (try with_reducible rfl)
                simp only [Act.put, List.setIfInBounds_toArray, List.set_cons_zero, List.set_cons_succ]
                refine takeR (i := 10) (v := ?_) rfl (by kernel_rfl) (by kernel_rfl) (by kernel_rfl) (some 27) rfl (Or.inl ⟨by rfl, ?_⟩) (fun _ _ _ h => h) (by assumption) ?_
                rotate_left
                · intro w hSw; (try dsimp only at hSw); go_simp; (try with_reducible rfl)
                simp only [Act.put, List.setIfInBounds_toArray, List.set_cons_zero, List.set_cons_succ]
                refine takeR (i := 11) (v := ?_) rfl (by kernel_rfl) (by kernel_rfl) (by kernel_rfl) (some 28) rfl (Or.inl ⟨by rfl, ?_⟩) (fun _ _ _ h => h) (by assumption) ?_
                rotate_left
                · intro w hSw; (try dsimp only at hSw); go_simp; (try with_reducible rfl)
                simp only [Act.put, List.setIfInBounds_toArray, List.set_cons_zero, List.set_cons_succ]
                refine takeR (i := 12) (v := ?_) rfl (by kernel_rfl) (by kernel_rfl) (by kernel_rfl) (some 29) rfl (Or.inl ⟨by rfl, ?_⟩) (fun _ _ _ h => h) (by assumption) ?_
                rotate_left
                · intro w hSw; (try dsimp only at hSw); go_simp; (try with_reducible rfl)
                simp only [Act.put, List.setIfInBounds_toArray, List.set_cons_zero, List.set_cons_succ]
                refine takeR (i := 13) (v := ?_) rfl (by kernel_rfl) (by kernel_rfl) (by kernel_rfl) (some 30) rfl (Or.inl ⟨by rfl, ?_⟩) (fun _ _ _ h => h) (by assumption) ?_
                rotate_left
                · intro w hSw; (try dsimp only at hSw); go_simp; (try with_reducible rfl)
                simp only [Act.put, List.setIfInBounds_toArray, List.set_cons_zero, List.set_cons_succ]
                refine takeR (i := 14) (v := ?_) rfl (by kernel_rfl) (by kernel_rfl) (by kernel_rfl) (some 31) rfl (Or.inl ⟨by rfl, ?_⟩) (fun _ _ _ h => h) (by assumption) ?_
                rotate_left
                · intro w hSw; (try dsimp only at hSw); go_simp; (try with_reducible rfl)
                simp only [Act.put, List.setIfInBounds_toArray, List.set_cons_zero, List.set_cons_succ]
                refine takeR (i := 15) (v := ?_) rfl (by kernel_rfl) (by kernel_rfl) (by kernel_rfl) (some 32) rfl (Or.inl ⟨by rfl, ?_⟩) (fun _ _ _ h => h) (by assumption) ?_
                rotate_left
                · intro w hSw; (try dsimp only at hSw); go_simp; (try with_reducible rfl)
                simp only [Act.put, List.setIfInBounds_toArray, List.set_cons_zero, List.set_cons_succ]
                refine takeR (i := 16) (v := ?_) rfl (by kernel_rfl) (by kernel_rfl) (by kernel_rfl) (some 33) rfl (Or.inl ⟨by rfl, ?_⟩) (fun _ _ _ h => h) (by assumption) ?_
                rotate_left
                · intro w hSw; (try dsimp only at hSw); have hcx := cell_later hSw X1; go_simp; (try with_reducible rfl)
                simp only [Act.put, List.setIfInBounds_toArray, List.set_cons_zero, List.set_cons_succ]
                refine takeR (i := 17) (v := ?_) rfl (by kernel_rfl) (by kernel_rfl) (by kernel_rfl) (some 34) rfl (Or.inl ⟨by rfl, ?_⟩) (fun _ _ _ h => h) (by assumption) ?_
                rotate_left
                · intro w hSw; (try dsimp only at hSw); go_simp; (try with_reducible rfl)
                simp only [Act.put, List.setIfInBounds_toArray, List.set_cons_zero, List.set_cons_succ]
                refine takeR (i := 18) (v := ?_) rfl (by kernel_rfl) (by kernel_rfl) (by kernel_rfl) (some 35) rfl (Or.inl ⟨by rfl, ?_⟩) (fun _ _ _ h => h) (by assumption) ?_
                rotate_left
                · intro w hSw; (try dsimp only at hSw); go_simp; (try with_reducible rfl)
                simp only [Act.put, List.setIfInBounds_toArray, List.set_cons_zero, List.set_cons_succ]
                refine takeR (i := 19) (v := ?_) rfl (by kernel_rfl) (by kernel_rfl) (by kernel_rfl) (some 36) rfl (Or.inl ⟨by rfl, ?_⟩) (fun _ _ _ h => h) (by assumption) ?_
                rotate_left
                · intro w hSw; (try dsimp only at hSw); go_simp; (try with_reducible rfl)
                simp only [Act.put, List.setIfInBounds_toArray, List.set_cons_zero, List.set_cons_succ]
                refine takeR (i := 20) (v := ?_) rfl (by kernel_rfl) (by kernel_rfl) (by kernel_rfl) (some 37) rfl (Or.inl ⟨by rfl, ?_⟩) (fun _ _ _ h => h) (by assumption) ?_
                rotate_left
                · intro w hSw; (try dsimp only at hSw); go_simp; (try with_reducible rfl)
                simp only [Act.put, List.setIfInBounds_toArray, List.set_cons_zero, List.set_cons_succ]
                refine takeR (i := 21) (v := ?_) rfl (by kernel_rfl) (by kernel_rfl) (by kernel_rfl) (some 38) rfl (Or.inl ⟨by rfl, ?_⟩) (fun _ _ _ h => h) (by assumption) ?_
                rotate_left
                · intro w hSw; (try dsimp only at hSw); have hcx := cell_later hSw Y1; go_simp; (try with_reducible rfl)
                simp only [Act.put, List.setIfInBounds_toArray, List.set_cons_zero, List.set_cons_succ]
                refine takeR (i := 22) (v := ?_) rfl (by kernel_rfl) (by kernel_rfl) (by kernel_rfl) (some 39) rfl (Or.inl ⟨by rfl, ?_⟩) (fun _ _ _ h => h) (by assumption) ?_
                rotate_left
                · intro w hSw; (try dsimp only at hSw); go_simp; (try with_reducible rfl)
                simp only [Act.put, List.setIfInBounds_toArray, List.set_cons_zero, List.set_cons_succ]
                refine takeR (i := 23) (v := ?_) rfl (by kernel_rfl) (by kernel_rfl) (by kernel_rfl) (some 40) rfl (Or.inl ⟨by rfl, ?_⟩) (fun _ _ _ h => h) (by assumption) ?_
                rotate_left
                · intro w hSw; (try dsimp only at hSw); go_simp; (try with_reducible rfl)
                simp only [Act.put, List.setIfInBounds_toArray, List.set_cons_zero, List.set_cons_succ]
                refine takeR (i := 24) (v := ?_) rfl (by kernel_rfl) (by kernel_rfl) (by kernel_rfl) (some 41) rfl (Or.inl ⟨by rfl, ?_⟩) (fun _ _ _ h => h) (by assumption) ?_
                rotate_left
                · intro w hSw; (try dsimp only at hSw); go_simp; (try with_reducible rfl)
                simp only [Act.put, List.setIfInBounds_toArray, List.set_cons_zero, List.set_cons_succ]
                refine takeR (i := 25) (v := ?_) rfl (by kernel_rfl) (by kernel_rfl) (by kernel_rfl) (some 42) rfl (Or.inl ⟨by rfl, ?_⟩) (fun _ _ _ h => h) (by assumption) ?_
                rotate_left
                · intro w hSw; (try dsimp only at hSw); go_simp; (try with_reducible rfl)
                simp only [Act.put, List.setIfInBounds_toArray, List.set_cons_zero, List.set_cons_succ]
                refine takeR (i := 26) (v := ?_) rfl (by kernel_rfl) (by kernel_rfl) (by kernel_rfl) (some 43) rfl (Or.inl ⟨by rfl, ?_⟩) (fun _ _ _ h => h) (by assumption) ?_
                rotate_left
                · intro w hSw; (try dsimp only at hSw); go_simp; (try with_reducible rfl)
                simp only [Act.put, List.setIfInBounds_toArray, List.set_cons_zero, List.set_cons_succ]
                refine takeR (i := 27) (v := ?_) rfl (by kernel_rfl) (by kernel_rfl) (by kernel_rfl) (some 44) rfl (Or.inl ⟨by rfl, ?_⟩) (fun _ _ _ h => h) (by assumption) ?_
                rotate_left
                · intro w hSw; (try dsimp only at hSw); go_simp; (try with_reducible rfl)
                simp only [Act.put, List.setIfInBounds_toArray, List.set_cons_zero, List.set_cons_succ]
                refine takeR (i := 28) (v := ?_) rfl (by kernel_rfl) (by kernel_rfl) (by kernel_rfl) (some 45) rfl (Or.inl ⟨by rfl, ?_⟩) (fun _ _ _ h => h) (by assumption) ?_
                rotate_left
                · intro w hSw; (try dsimp only at hSw); go_simp; (try with_reducible rfl)
                simp only [Act.put, List.setIfInBounds_toArray, List.set_cons_zero, List.set_cons_succ]
                refine takeR (i := 29) (v := ?_) rfl (by kernel_rfl) (by kernel_rfl) (by kernel_rfl) (some 46) rfl (Or.inl ⟨by rfl, ?_⟩) (fun _ _ _ h => h) (by assumption) ?_
                rotate_left
                · intro w hSw; (try dsimp only at hSw); have hcx := cell_later hSw X2; go_simp; (try with_reducible rfl)
                simp only [Act.put, List.setIfInBounds_toArray, List.set_cons_zero, List.set_cons_succ]
                refine takeR (i := 30) (v := ?_) rfl (by kernel_rfl) (by kernel_rfl) (by kernel_rfl) (some 47) rfl (Or.inl ⟨by rfl, ?_⟩) (fun _ _ _ h => h) (by assumption) ?_
                rotate_left
                · intro w hSw; (try dsimp only at hSw); go_simp; (try with_reducible rfl)
                simp only [Act.put, List.setIfInBounds_toArray, List.set_cons_zero, List.set_cons_succ]
                refine takeR (i := 31) (v := ?_) rfl (by kernel_rfl) (by kernel_rfl) (by kernel_rfl) (some 48) rfl (Or.inl ⟨by rfl, ?_⟩) (fun _ _ _ h => h) (by assumption) ?_
                rotate_left
                · intro w hSw; (try dsimp only at hSw); go_simp; (try with_reducible rfl)
                simp only [Act.put, List.setIfInBounds_toArray, List.set_cons_zero, List.set_cons_succ]
                refine takeR (i := 32) (v := ?_) rfl (by kernel_rfl) (by kernel_rfl) (by kernel_rfl) (some 49) rfl (Or.inl ⟨by rfl, ?_⟩) (fun _ _ _ h => h) (by assumption) ?_
                rotate_left
                · intro w hSw; (try dsimp only at hSw); go_simp; (try with_reducible rfl)
                simp only [Act.put, List.setIfInBounds_toArray, List.set_cons_zero, List.set_cons_succ]
                refine takeR (i := 33) (v := ?_) rfl (by kernel_rfl) (by kernel_rfl) (by kernel_rfl) (some 50) rfl (Or.inl ⟨by rfl, ?_⟩) (fun _ _ _ h => h) (by assumption) ?_
                rotate_left
                · intro w hSw; (try dsimp only at hSw); go_simp; (try with_reducible rfl)
                simp only [Act.put, List.setIfInBounds_toArray, List.set_cons_zero, List.set_cons_succ]
                refine takeR (i := 34) (v := ?_) rfl (by kernel_rfl) (by kernel_rfl) (by kernel_rfl) (some 51) rfl (Or.inl ⟨by rfl, ?_⟩) (fun _ _ _ h => h) (by assumption) ?_
                rotate_left
                · intro w hSw; (try dsimp only at hSw); have hcx := cell_later hSw Y2; go_simp; (try with_reducible rfl)
                simp only [Act.put, List.setIfInBounds_toArray, List.set_cons_zero, List.set_cons_succ]
                refine takeR (i := 35) (v := ?_) rfl (by kernel_rfl) (by kernel_rfl) (by kernel_rfl) (some 52) rfl (Or.inl ⟨by rfl, ?_⟩) (fun _ _ _ h => h) (by assumption) ?_
                rotate_left
                · intro w hSw; (try dsimp only at hSw); go_simp; (try with_reducible rfl)
                simp only [Act.put, List.setIfInBounds_toArray, List.set_cons_zero, List.set_cons_succ]
                refine takeR (i := 36) (v := ?_) rfl (by kernel_rfl) (by kernel_rfl) (by kernel_rfl) (some 53) rfl (Or.inl ⟨by rfl, ?_⟩) (fun _ _ _ h => h) (by assumption) ?_
                rotate_left
                · intro w hSw; (try dsimp only at hSw); go_simp; (try with_reducible rfl)
                simp only [Act.put, List.setIfInBounds_toArray, List.set_cons_zero, List.set_cons_succ]
                refine takeR (i := 37) (v := ?_) rfl (by kernel_rfl) (by kernel_rfl) (by kernel_rfl) (some 54) rfl (Or.inl ⟨by rfl, ?_⟩) (fun _ _ _ h => h) (by assumption) ?_
                rotate_left
                · intro w hSw; (try dsimp only at hSw); go_simp; (try with_reducible rfl)
                simp only [Act.put, List.setIfInBounds_toArray, List.set_cons_zero, List.set_cons_succ]
                refine takeR (i := 38) (v := ?_) rfl (by kernel_rfl) (by kernel_rfl) (by kernel_rfl) (some 55) rfl (Or.inl ⟨by rfl, ?_⟩) (fun _ _ _ h => h) (by assumption) ?_
                rotate_left
                · intro w hSw; (try dsimp only at hSw); go_simp; (try with_reducible rfl)
                simp only [Act.put, List.setIfInBounds_toArray, List.set_cons_zero, List.set_cons_succ]
                refine takeR (i := 39) (v := ?_) rfl (by kernel_rfl) (by kernel_rfl) (by kernel_rfl) (some 56) rfl (Or.inl ⟨by rfl, ?_⟩) (fun _ _ _ h => h) (by assumption) ?_
                rotate_left
                · intro w hSw; (try dsimp only at hSw); go_simp; (try with_reducible rfl)
                simp only [Act.put, List.setIfInBounds_toArray, List.set_cons_zero, List.set_cons_succ]
                refine takeR (i := 40) (v := ?_) rfl (by kernel_rfl) (by kernel_rfl) (by kernel_rfl) (some 57) rfl (Or.inl ⟨by rfl, ?_⟩) (fun _ _ _ h => h) (by assumption) ?_
                rotate_left
                · intro w hSw; (try dsimp only at hSw); go_simp; (try with_reducible rfl)
                simp only [Act.put, List.setIfInBounds_toArray, List.set_cons_zero, List.set_cons_succ]
                refine takeR (i := 41) (v := ?_) rfl (by kernel_rfl) (by kernel_rfl) (by kernel_rfl) (some 58) rfl (Or.inl ⟨by rfl, ?_⟩) (fun _ _ _ h => h) (by assumption) ?_
                rotate_left
                · intro w hSw; (try dsimp only at hSw); go_simp; (try with_reducible rfl)
                simp only [Act.put, List.setIfInBounds_toArray, List.set_cons_zero, List.set_cons_succ]
                refine takeR (i := 42) (v := ?_) rfl (by kernel_rfl) (by kernel_rfl) (by kernel_rfl) (some 59) rfl (Or.inl ⟨by rfl, ?_⟩) (fun _ _ _ h => h) (by assumption) ?_
                rotate_left
                · intro w hSw; (try dsimp only at hSw); have hcx := cell_later hSw X3; go_simp; (try with_reducible rfl)
                simp only [Act.put, List.setIfInBounds_toArray, List.set_cons_zero, List.set_cons_succ]
                refine takeR (i := 43) (v := ?_) rfl (by kernel_rfl) (by kernel_rfl) (by kernel_rfl) (some 60) rfl (Or.inl ⟨by rfl, ?_⟩) (fun _ _ _ h => h) (by assumption) ?_
                rotate_left
                · intro w hSw; (try dsimp only at hSw); go_simp; (try with_reducible rfl)
                simp only [Act.put, List.setIfInBounds_toArray, List.set_cons_zero, List.set_cons_succ]
                refine takeR (i := 44) (v := ?_) rfl (by kernel_rfl) (by kernel_rfl) (by kernel_rfl) (some 61) rfl (Or.inl ⟨by rfl, ?_⟩) (fun _ _ _ h => h) (by assumption) ?_
                rotate_left
                · intro w hSw; (try dsimp only at hSw); go_simp; (try with_reducible rfl)
                simp only [Act.put, List.setIfInBounds_toArray, List.set_cons_zero, List.set_cons_succ]
                refine takeR (i := 45) (v := ?_) rfl (by kernel_rfl) (by kernel_rfl) (by kernel_rfl) (some 62) rfl (Or.inl ⟨by rfl, ?_⟩) (fun _ _ _ h => h) (by assumption) ?_
                rotate_left
                · intro w hSw; (try dsimp only at hSw); go_simp; (try with_reducible rfl)
                simp only [Act.put, List.setIfInBounds_toArray, List.set_cons_zero, List.set_cons_succ]
                refine takeR (i := 46) (v := ?_) rfl (by kernel_rfl) (by kernel_rfl) (by kernel_rfl) (some 63) rfl (Or.inl ⟨by rfl, ?_⟩) (fun _ _ _ h => h) (by assumption) ?_
                rotate_left
                · intro w hSw; (try dsimp only at hSw); go_simp; (try with_reducible rfl)
                simp only [Act.put, List.setIfInBounds_toArray, List.set_cons_zero, List.set_cons_succ]
                refine takeR (i := 47) (v := ?_) rfl (by kernel_rfl) (by kernel_rfl) (by kernel_rfl) (some 64) rfl (Or.inl ⟨by rfl, ?_⟩) (fun _ _ _ h => h) (by assumption) ?_
                rotate_left
                · intro w hSw; (try dsimp only at hSw); have hcx := cell_later hSw Y3; go_simp; (try with_reducible rfl)
                simp only [Act.put, List.setIfInBounds_toArray, List.set_cons_zero, List.set_cons_succ]
                refine wpAnyH_ready (rs := [48]) (by kernel_rfl) (by simp) ?_
                refine AllReadyH.cons rfl (fun K hK => ?_) (AllReadyH.nil)
                go_simp
                go_at_call 76
                refine (qs.out _ kb0).mono ?_
                rintro e D1 ⟨rfl, bj⟩
                refine hK.out _ _ (kb0.trans (bj.mono kb0.size)) (fun hHeld => ?_)
                clear hK K
                try simp only [Act.put, List.setIfInBounds_toArray, List.set_cons_zero, List.set_cons_succ]
                have kb1 := kb0.trans (bj.mono kb0.size)
                clear bj
                refine takeR (i := 49) (v := ?_) rfl (by kernel_rfl) (by kernel_rfl) (by kernel_rfl) (some 66) rfl (Or.inl ⟨by rfl, ?_⟩) (fun _ _ _ h => h) (by assumption) ?_
                rotate_left
                · intro w hSw; (try dsimp only at hSw); go_simp; (try with_reducible rfl)
                simp only [Act.put, List.setIfInBounds_toArray, List.set_cons_zero, List.set_cons_succ]
                refine takeR (i := 50) (v := ?_) rfl (by kernel_rfl) (by kernel_rfl) (by kernel_rfl) (some 67) rfl (Or.inl ⟨by rfl, ?_⟩) (fun _ _ _ h => h) (by assumption) ?_
                rotate_left
                · intro w hSw; (try dsimp only at hSw); go_simp; (try with_reducible rfl)
                simp only [Act.put, List.setIfInBounds_toArray, List.set_cons_zero, List.set_cons_succ]
                refine wpAnyH_done (by kernel_rfl) ?_ _
                go_wp2
                go_roundw
                case rel => exact ⟨j + 1, by omega, by go_num, hide_ (take_sameB HT.out HX.out HY.out HD.out), hb.trans (kb1.mono hb.size)⟩
                case measure => simp [intOf]; omega
            · have d3 : (c1 != c2) = true := by simpa using e3
              have HD := hide_ (fun h : ((a1, b1, c1, M1) : BK) = (a2, b2, c2, M2) => e3 (congrArg (fun o : BK => o.2.2.1) h))
              clear e1 e2 e3
              go_wp2_with fail
              try simp only [Act.put]
              refine wp_region_held_drew (S := (fun w' => Below wr.heap.size wr w')) (by kernel_rfl) ((Below.refl _ _).drew) (fun hHeld => ?_)
              have kb0 : Below wr.heap.size wr wr.drew := (Below.refl _ _).drew
              generalize wr.drew = D0 at *
              refine takeR (i := 0) (v := ?_) rfl (by kernel_rfl) (by kernel_rfl) (by kernel_rfl) (some 17) rfl (Or.inl ⟨by rfl, ?_⟩) (fun _ _ _ h => h) (by assumption) ?_
              rotate_left
              · intro w hSw; (try dsimp only at hSw); go_simp; (try with_reducible rfl)
              simp only [Act.put, List.setIfInBounds_toArray, List.set_cons_zero, List.set_cons_succ]
              refine takeR (i := 1) (v := ?_) rfl (by kernel_rfl) (by kernel_rfl) (by kernel_rfl) (some 18) rfl (Or.inl ⟨by rfl, ?_⟩) (fun _ _ _ h => h) (by assumption) ?_
              rotate_left
              · intro w hSw; (try dsimp only at hSw); go_simp; (try with_reducible rfl)
              simp only [Act.put, List.setIfInBounds_toArray, List.set_cons_zero, List.set_cons_succ]
              refine takeR (i := 2) (v := ?_) rfl (by kernel_rfl) (by kernel_rfl) (by kernel_rfl) (some 19) rfl (Or.inl ⟨by rfl, ?_⟩) (fun _ _ _ h => h) (by assumption) ?_
              rotate_left
              · intro w hSw; (try dsimp only at hSw); go_simp; (try with_reducible rfl)
              simp only [Act.put, List.setIfInBounds_toArray, List.set_cons_zero, List.set_cons_succ]
              refine takeR (i := 3) (v := ?_) rfl (by kernel_rfl) (by kernel_rfl) (by kernel_rfl) (some 20) rfl (Or.inl ⟨by rfl, ?_⟩) (fun _ _ _ h => h) (by assumption) ?_
              rotate_left
              · intro w hSw; (try dsimp only at hSw); go_simp; (try with_reducible rfl)
              simp only [Act.put, List.setIfInBounds_toArray, List.set_cons_zero, List.set_cons_succ]
              refine takeR (i := 4) (v := ?_) rfl (by kernel_rfl) (by kernel_rfl) (by kernel_rfl) (some 21) rfl (Or.inl ⟨by rfl, ?_⟩) (fun _ _ _ h => h) (by assumption) ?_
              rotate_left
              · intro w hSw; (try dsimp only at hSw); have hcx := cell_later hSw X0; go_simp; (try with_reducible rfl)
              simp only [Act.put, List.setIfInBounds_toArray, List.set_cons_zero, List.set_cons_succ]
              refine takeR (i := 5) (v := ?_) rfl (by kernel_rfl) (by kernel_rfl) (by kernel_rfl) (some 22) rfl (Or.inl ⟨by rfl, ?_⟩) (fun _ _ _ h => h) (by assumption) ?_
              rotate_left
              · intro w hSw; (try dsimp only at hSw); go_simp; (try with_reducible rfl)
              simp only [Act.put, List.setIfInBounds_toArray, List.set_cons_zero, List.set_cons_succ]
              refine takeR (i := 6) (v := ?_) rfl (by kernel_rfl) (by kernel_rfl) (by kernel_rfl) (some 23) rfl (Or.inl ⟨by rfl, ?_⟩) (fun _ _ _ h => h) (by assumption) ?_
              rotate_left
              · intro w hSw; (try dsimp only at hSw); go_simp; (try with_reducible rfl)
              simp only [Act.put, List.setIfInBounds_toArray, List.set_cons_zero, List.set_cons_succ]
              refine takeR (i := 7) (v := ?_) rfl (by kernel_rfl) (by kernel_rfl) (by kernel_rfl) (some 24) rfl (Or.inl ⟨by rfl, ?_⟩) (fun _ _ _ h => h) (by assumption) ?_
              rotate_left
              · intro w hSw; (try dsimp only at hSw); go_simp; (try with_reducible rfl)
              simp only [Act.put, List.setIfInBounds_toArray, List.set_cons_zero, List.set_cons_succ]
              refine takeR (i := 8) (v := ?_) rfl (by kernel_rfl) (by kernel_rfl) (by kernel_rfl) (some 25) rfl (Or.inl ⟨by rfl, ?_⟩) (fun _ _ _ h => h) (by assumption) ?_
              rotate_left
              · intro w hSw; (try dsimp only at hSw); go_simp; (try with_reducible rfl)
              simp only [Act.put, List.setIfInBounds_toArray, List.set_cons_zero, List.set_cons_succ]
              refine takeR (i := 9) (v := ?_) rfl (by kernel_rfl) (by kernel_rfl) (by kernel_rfl) (some 26) rfl (Or.inl ⟨by rfl, ?_⟩) (fun _ _ _ h => h) (by assumption) ?_
              rotate_left
              · intro w hSw; (try dsimp only at hSw); have hcx := cell_later hSw Y0; go_simp; (try with_reducible rfl)
              simp only [Act.put, List.setIfInBounds_toArray, List.set_cons_zero, List.set_cons_succ]
              refine takeR (i := 10) (v := ?_) rfl (by kernel_rfl) (by kernel_rfl) (by kernel_rfl) (some 27) rfl (Or.inl ⟨by rfl, ?_⟩) (fun _ _ _ h => h) (by assumption) ?_
              rotate_left
              · intro w hSw; (try dsimp only at hSw); go_simp; (try with_reducible rfl)
              simp only [Act.put, List.setIfInBounds_toArray, List.set_cons_zero, List.set_cons_succ]
              refine takeR (i := 11) (v := ?_) rfl (by kernel_rfl) (by kernel_rfl) (by kernel_rfl) (some 28) rfl (Or.inl ⟨by rfl, ?_⟩) (fun _ _ _ h => h) (by assumption) ?_
              rotate_left
              · intro w hSw; (try dsimp only at hSw); go_simp; (try with_reducible rfl)
              simp only [Act.put, List.setIfInBounds_toArray, List.set_cons_zero, List.set_cons_succ]
              refine takeR (i := 12) (v := ?_) rfl (by kernel_rfl) (by kernel_rfl) (by kernel_rfl) (some 29) rfl (Or.inl ⟨by rfl, ?_⟩) (fun _ _ _ h => h) (by assumption) ?_
              rotate_left
              · intro w hSw; (try dsimp only at hSw); go_simp; (try with_reducible rfl)
              simp only [Act.put, List.setIfInBounds_toArray, List.set_cons_zero, List.set_cons_succ]
              refine takeR (i := 13) (v := ?_) rfl (by kernel_rfl) (by kernel_rfl) (by kernel_rfl) (some 30) rfl (Or.inl ⟨by rfl, ?_⟩) (fun _ _ _ h => h) (by assumption) ?_
              rotate_left
              · intro w hSw; (try dsimp only at hSw); go_simp; (try with_reducible rfl)
              simp only [Act.put, List.setIfInBounds_toArray, List.set_cons_zero, List.set_cons_succ]
              refine takeR (i := 14) (v := ?_) rfl (by kernel_rfl) (by kernel_rfl) (by kernel_rfl) (some 31) rfl (Or.inl ⟨by rfl, ?_⟩) (fun _ _ _ h => h) (by assumption) ?_
              rotate_left
              · intro w hSw; (try dsimp only at hSw); go_simp; (try with_reducible rfl)
              simp only [Act.put, List.setIfInBounds_toArray, List.set_cons_zero, List.set_cons_succ]
              refine takeR (i := 15) (v := ?_) rfl (by kernel_rfl) (by kernel_rfl) (by kernel_rfl) (some 32) rfl (Or.inl ⟨by rfl, ?_⟩) (fun _ _ _ h => h) (by assumption) ?_
              rotate_left
              · intro w hSw; (try dsimp only at hSw); go_simp; (try with_reducible rfl)
              simp only [Act.put, List.setIfInBounds_toArray, List.set_cons_zero, List.set_cons_succ]
              refine takeR (i := 16) (v := ?_) rfl (by kernel_rfl) (by kernel_rfl) (by kernel_rfl) (some 33) rfl (Or.inl ⟨by rfl, ?_⟩) (fun _ _ _ h => h) (by assumption) ?_
              rotate_left
              · intro w hSw; (try dsimp only at hSw); have hcx := cell_later hSw X1; go_simp; (try with_reducible rfl)
              simp only [Act.put, List.setIfInBounds_toArray, List.set_cons_zero, List.set_cons_succ]
              refine takeR (i := 17) (v := ?_) rfl (by kernel_rfl) (by kernel_rfl) (by kernel_rfl) (some 34) rfl (Or.inl ⟨by rfl, ?_⟩) (fun _ _ _ h => h) (by assumption) ?_
              rotate_left
              · intro w hSw; (try dsimp only at hSw); go_simp; (try with_reducible rfl)
              simp only [Act.put, List.setIfInBounds_toArray, List.set_cons_zero, List.set_cons_succ]
              refine takeR (i := 18) (v := ?_) rfl (by kernel_rfl) (by kernel_rfl) (by kernel_rfl) (some 35) rfl (Or.inl ⟨by rfl, ?_⟩) (fun _ _ _ h => h) (by assumption) ?_
              rotate_left
              · intro w hSw; (try dsimp only at hSw); go_simp; (try with_reducible rfl)
              simp only [Act.put, List.setIfInBounds_toArray, List.set_cons_zero, List.set_cons_succ]
              refine takeR (i := 19) (v := ?_) rfl (by kernel_rfl) (by kernel_rfl) (by kernel_rfl) (some 36) rfl (Or.inl ⟨by rfl, ?_⟩) (fun _ _ _ h => h) (by assumption) ?_
              rotate_left
              · intro w hSw; (try dsimp only at hSw); go_simp; (try with_reducible rfl)
              simp only [Act.put, List.setIfInBounds_toArray, List.set_cons_zero, List.set_cons_succ]
              refine takeR (i := 20) (v := ?_) rfl (by kernel_rfl) (by kernel_rfl) (by kernel_rfl) (some 37) rfl (Or.inl ⟨by rfl, ?_⟩) (fun _ _ _ h => h) (by assumption) ?_
              rotate_left
              · intro w hSw; (try dsimp only at hSw); go_simp; (try with_reducible rfl)
              simp only [Act.put, List.setIfInBounds_toArray, List.set_cons_zero, List.set_cons_succ]
              refine takeR (i := 21) (v := ?_) rfl (by kernel_rfl) (by kernel_rfl) (by kernel_rfl) (some 38) rfl (Or.inl ⟨by rfl, ?_⟩) (fun _ _ _ h => h) (by assumption) ?_
              rotate_left
              · intro w hSw; (try dsimp only at hSw); have hcx := cell_later hSw Y1; go_simp; (try with_reducible rfl)
              simp only [Act.put, List.setIfInBounds_toArray, List.set_cons_zero, List.set_cons_succ]
              refine takeR (i := 22) (v := ?_) rfl (by kernel_rfl) (by kernel_rfl) (by kernel_rfl) (some 39) rfl (Or.inl ⟨by rfl, ?_⟩) (fun _ _ _ h => h) (by assumption) ?_
              rotate_left
              · intro w hSw; (try dsimp only at hSw); go_simp; (try with_reducible rfl)
              simp only [Act.put, List.setIfInBounds_toArray, List.set_cons_zero, List.set_cons_succ]
              refine takeR (i := 23) (v := ?_) rfl (by kernel_rfl) (by kernel_rfl) (by kernel_rfl) (some 40) rfl (Or.inl ⟨by rfl, ?_⟩) (fun _ _ _ h => h) (by assumption) ?_
              rotate_left
              · intro w hSw; (try dsimp only at hSw); go_simp; (try with_reducible rfl)
              simp only [Act.put, List.setIfInBounds_toArray, List.set_cons_zero, List.set_cons_succ]
              refine takeR (i := 24) (v := ?_) rfl (by kernel_rfl) (by kernel_rfl) (by kernel_rfl) (some 41) rfl (Or.inl ⟨by rfl, ?_⟩) (fun _ _ _ h => h) (by assumption) ?_
              rotate_left
              · intro w hSw; (try dsimp only at hSw); go_simp; (try with_reducible rfl)
              simp only [Act.put, List.setIfInBounds_toArray, List.set_cons_zero, List.set_cons_succ]
              refine takeR (i := 25) (v := ?_) rfl (by kernel_rfl) (by kernel_rfl) (by kernel_rfl) (some 42) rfl (Or.inl ⟨by rfl, ?_⟩) (fun _ _ _ h => h) (by assumption) ?_
              rotate_left
              · intro w hSw; (try dsimp only at hSw); go_simp; (try with_reducible rfl)
              simp only [Act.put, List.setIfInBounds_toArray, List.set_cons_zero, List.set_cons_succ]
              refine takeR (i := 26) (v := ?_) rfl (by kernel_rfl) (by kernel_rfl) (by kernel_rfl) (some 43) rfl (Or.inl ⟨by rfl, ?_⟩) (fun _ _ _ h => h) (by assumption) ?_
              rotate_left
              · intro w hSw; (try dsimp only at hSw); go_simp; (try with_reducible rfl)
              simp only [Act.put, List.setIfInBounds_toArray, List.set_cons_zero, List.set_cons_succ]
              refine takeR (i := 27) (v := ?_) rfl (by kernel_rfl) (by kernel_rfl) (by kernel_rfl) (some 44) rfl (Or.inl ⟨by rfl, ?_⟩) (fun _ _ _ h => h) (by assumption) ?_
              rotate_left
              · intro w hSw; (try dsimp only at hSw); go_simp; (try with_reducible rfl)
              simp only [Act.put, List.setIfInBounds_toArray, List.set_cons_zero, List.set_cons_succ]
              refine takeR (i := 28) (v := ?_) rfl (by kernel_rfl) (by kernel_rfl) (by kernel_rfl) (some 45) rfl (Or.inl ⟨by rfl, ?_⟩) (fun _ _ _ h => h) (by assumption) ?_
              rotate_left
              · intro w hSw; (try dsimp only at hSw); go_simp; (try with_reducible rfl)
              simp only [Act.put, List.setIfInBounds_toArray, List.set_cons_zero, List.set_cons_succ]
              refine takeR (i := 29) (v := ?_) rfl (by kernel_rfl) (by kernel_rfl) (by kernel_rfl) (some 46) rfl (Or.inl ⟨by rfl, ?_⟩) (fun _ _ _ h => h) (by assumption) ?_
              rotate_left
              · intro w hSw; (try dsimp only at hSw); have hcx := cell_later hSw X2; go_simp; (try with_reducible rfl)
              simp only [Act.put, List.setIfInBounds_toArray, List.set_cons_zero, List.set_cons_succ]
              refine takeR (i := 30) (v := ?_) rfl (by kernel_rfl) (by kernel_rfl) (by kernel_rfl) (some 47) rfl (Or.inl ⟨by rfl, ?_⟩) (fun _ _ _ h => h) (by assumption) ?_
              rotate_left
              · intro w hSw; (try dsimp only at hSw); go_simp; (try with_reducible rfl)
              simp only [Act.put, List.setIfInBounds_toArray, List.set_cons_zero, List.set_cons_succ]
              refine takeR (i := 31) (v := ?_) rfl (by kernel_rfl) (by kernel_rfl) (by kernel_rfl) (some 48) rfl (Or.inl ⟨by rfl, ?_⟩) (fun _ _ _ h => h) (by assumption) ?_
              rotate_left
              · intro w hSw; (try dsimp only at hSw); go_simp; (try with_reducible rfl)
              simp only [Act.put, List.setIfInBounds_toArray, List.set_cons_zero, List.set_cons_succ]
              refine takeR (i := 32) (v := ?_) rfl (by kernel_rfl) (by kernel_rfl) (by kernel_rfl) (some 49) rfl (Or.inl ⟨by rfl, ?_⟩) (fun _ _ _ h => h) (by assumption) ?_
              rotate_left
              · intro w hSw; (try dsimp only at hSw); go_simp; (try with_reducible rfl)
              simp only [Act.put, List.setIfInBounds_toArray, List.set_cons_zero, List.set_cons_succ]
              refine takeR (i := 33) (v := ?_) rfl (by kernel_rfl) (by kernel_rfl) (by kernel_rfl) (some 50) rfl (Or.inl ⟨by rfl, ?_⟩) (fun _ _ _ h => h) (by assumption) ?_
              rotate_left
              · intro w hSw; (try dsimp only at hSw); go_simp; (try with_reducible rfl)
              simp only [Act.put, List.setIfInBounds_toArray, List.set_cons_zero, List.set_cons_succ]
              refine takeR (i := 34) (v := ?_) rfl (by kernel_rfl) (by kernel_rfl) (by kernel_rfl) (some 51) rfl (Or.inl ⟨by rfl, ?_⟩) (fun _ _ _ h => h) (by assumption) ?_
              rotate_left
              · intro w hSw; (try dsimp only at hSw); have hcx := cell_later hSw Y2; go_simp; (try with_reducible rfl)
              simp only [Act.put, List.setIfInBounds_toArray, List.set_cons_zero, List.set_cons_succ]
              refine takeR (i := 35) (v := ?_) rfl (by kernel_rfl) (by kernel_rfl) (by kernel_rfl) (some 52) rfl (Or.inl ⟨by rfl, ?_⟩) (fun _ _ _ h => h) (by assumption) ?_
              rotate_left
              · intro w hSw; (try dsimp only at hSw); go_simp; (try with_reducible rfl)
              simp only [Act.put, List.setIfInBounds_toArray, List.set_cons_zero, List.set_cons_succ]
              refine takeR (i := 36) (v := ?_) rfl (by kernel_rfl) (by kernel_rfl) (by kernel_rfl) (some 53) rfl (Or.inl ⟨by rfl, ?_⟩) (fun _ _ _ h => h) (by assumption) ?_
              rotate_left
              · intro w hSw; (try dsimp only at hSw); go_simp; (try with_reducible rfl)
              simp only [Act.put, List.setIfInBounds_toArray, List.set_cons_zero, List.set_cons_succ]
              refine takeR (i := 37) (v := ?_) rfl (by kernel_rfl) (by kernel_rfl) (by kernel_rfl) (some 54) rfl (Or.inl ⟨by rfl, ?_⟩) (fun _ _ _ h => h) (by assumption) ?_
              rotate_left
              · intro w hSw; (try dsimp only at hSw); go_simp; (try with_reducible rfl)
              simp only [Act.put, List.setIfInBounds_toArray, List.set_cons_zero, List.set_cons_succ]
              refine takeR (i := 38) (v := undef) rfl (by kernel_rfl) (by kernel_rfl) (by kernel_rfl) (some 55) rfl (Or.inr ⟨by rfl, rfl⟩) (fun _ _ _ h => h) (by assumption) ?_
              simp only [Act.put, List.setIfInBounds_toArray, List.set_cons_zero, List.set_cons_succ]
              refine takeR (i := 39) (v := undef) rfl (by kernel_rfl) (by kernel_rfl) (by kernel_rfl) (some 56) rfl (Or.inr ⟨by rfl, rfl⟩) (fun _ _ _ h => h) (by assumption) ?_
              simp only [Act.put, List.setIfInBounds_toArray, List.set_cons_zero, List.set_cons_succ]
              refine takeR (i := 40) (v := undef) rfl (by kernel_rfl) (by kernel_rfl) (by kernel_rfl) (some 57) rfl (Or.inr ⟨by rfl, rfl⟩) (fun _ _ _ h => h) (by assumption) ?_
              simp only [Act.put, List.setIfInBounds_toArray, List.set_cons_zero, List.set_cons_succ]
              refine takeR (i := 41) (v := undef) rfl (by kernel_rfl) (by kernel_rfl) (by kernel_rfl) (some 58) rfl (Or.inr ⟨by rfl, rfl⟩) (fun _ _ _ h => h) (by assumption) ?_
              simp only [Act.put, List.setIfInBounds_toArray, List.set_cons_zero, List.set_cons_succ]
              refine takeR (i := 42) (v := undef) rfl (by kernel_rfl) (by kernel_rfl) (by kernel_rfl) (some 59) rfl (Or.inr ⟨by rfl, rfl⟩) (fun _ _ _ h => h) (by assumption) ?_
              simp only [Act.put, List.setIfInBounds_toArray, List.set_cons_zero, List.set_cons_succ]
              refine takeR (i := 43) (v := undef) rfl (by kernel_rfl) (by kernel_rfl) (by kernel_rfl) (some 60) rfl (Or.inr ⟨by rfl, rfl⟩) (fun _ _ _ h => h) (by assumption) ?_
              simp only [Act.put, List.setIfInBounds_toArray, List.set_cons_zero, List.set_cons_succ]
              refine takeR (i := 44) (v := undef) rfl (by kernel_rfl) (by kernel_rfl) (by kernel_rfl) (some 61) rfl (Or.inr ⟨by rfl, rfl⟩) (fun _ _ _ h => h) (by assumption) ?_
              simp only [Act.put, List.setIfInBounds_toArray, List.set_cons_zero, List.set_cons_succ]
              refine takeR (i := 45) (v := undef) rfl (by kernel_rfl) (by kernel_rfl) (by kernel_rfl) (some 62) rfl (Or.inr ⟨by rfl, rfl⟩) (fun _ _ _ h => h) (by assumption) ?_
              simp only [Act.put, List.setIfInBounds_toArray, List.set_cons_zero, List.set_cons_succ]
              refine takeR (i := 46) (v := undef) rfl (by kernel_rfl) (by kernel_rfl) (by kernel_rfl) (some 63) rfl (Or.inr ⟨by rfl, rfl⟩) (fun _ _ _ h => h) (by assumption) ?_
              simp only [Act.put, List.setIfInBounds_toArray, List.set_cons_zero, List.set_cons_succ]
              refine takeR (i := 47) (v := undef) rfl (by kernel_rfl) (by kernel_rfl) (by kernel_rfl) (some 64) rfl (Or.inr ⟨by rfl, rfl⟩) (fun _ _ _ h => h) (by assumption) ?_
              simp only [Act.put, List.setIfInBounds_toArray, List.set_cons_zero, List.set_cons_succ]
              refine takeR (i := 48) (v := undef) rfl (by kernel_rfl) (by kernel_rfl) (by kernel_rfl) (some 65) rfl (Or.inr ⟨by rfl, rfl⟩) (fun _ _ _ h => h) (by assumption) ?_
              simp only [Act.put, List.setIfInBounds_toArray, List.set_cons_zero, List.set_cons_succ]
              refine takeR (i := 49) (v := undef) rfl (by kernel_rfl) (by kernel_rfl) (by kernel_rfl) (some 66) rfl (Or.inr ⟨by rfl, rfl⟩) (fun _ _ _ h => h) (by assumption) ?_
              simp only [Act.put, List.setIfInBounds_toArray, List.set_cons_zero, List.set_cons_succ]
              refine takeR (i := 50) (v := ?_) rfl (by kernel_rfl) (by kernel_rfl) (by kernel_rfl) (some 67) rfl (Or.inl ⟨by rfl, ?_⟩) (fun _ _ _ h => h) (by assumption) ?_
              rotate_left
              · intro w hSw; (try dsimp only at hSw); go_simp; (try with_reducible rfl)
              simp only [Act.put, List.setIfInBounds_toArray, List.set_cons_zero, List.set_cons_succ]
              refine wpAnyH_done (by kernel_rfl) ?_ _
              go_wp2
              go_ret
              refine ⟨?_, hb.trans (kb0.mono hb.size)⟩
              rw [← HR.out, sameBL_false (take_diffB HX.out HY.out HD.out)]
              rfl
          · have d2 : (b1 != b2) = true := by simpa using e2
            have HD := hide_ (fun h : ((a1, b1, c1, M1) : BK) = (a2, b2, c2, M2) => e2 (congrArg (fun o : BK => o.2.1) h))
            clear e1 e2
            go_wp2_with fail
            try simp only [Act.put]
            refine wp_region_held_drew (S := (fun w' => Below wr.heap.size wr w')) (by kernel_rfl) ((Below.refl _ _).drew) (fun hHeld => ?_)
            have kb0 : Below wr.heap.size wr wr.drew := (Below.refl _ _).drew
            generalize wr.drew = D0 at *
            refine takeR (i := 0) (v := ?_) rfl (by kernel_rfl) (by kernel_rfl) (by kernel_rfl) (some 17) rfl (Or.inl ⟨by rfl, ?_⟩) (fun _ _ _ h => h) (by assumption) ?_
            rotate_left
            · intro w hSw; (try dsimp only at hSw); go_simp; (try with_reducible rfl)
            simp only [Act.put, List.setIfInBounds_toArray, List.set_cons_zero, List.set_cons_succ]
            refine takeR (i := 1) (v := ?_) rfl (by kernel_rfl) (by kernel_rfl) (by kernel_rfl) (some 18) rfl (Or.inl ⟨by rfl, ?_⟩) (fun _ _ _ h => h) (by assumption) ?_
            rotate_left
            · intro w hSw; (try dsimp only at hSw); go_simp; (try with_reducible rfl)
            simp only [Act.put, List.setIfInBounds_toArray, List.set_cons_zero, List.set_cons_succ]
            refine takeR (i := 2) (v := ?_) rfl (by kernel_rfl) (by kernel_rfl) (by kernel_rfl) (some 19) rfl (Or.inl ⟨by rfl, ?_⟩) (fun _ _ _ h => h) (by assumption) ?_
            rotate_left
            · intro w hSw; (try dsimp only at hSw); go_simp; (try with_reducible rfl)
            simp only [Act.put, List.setIfInBounds_toArray, List.set_cons_zero, List.set_cons_succ]
            refine takeR (i := 3) (v := ?_) rfl (by kernel_rfl) (by kernel_rfl) (by kernel_rfl) (some 20) rfl (Or.inl ⟨by rfl, ?_⟩) (fun _ _ _ h => h) (by assumption) ?_
            rotate_left
            · intro w hSw; (try dsimp only at hSw); go_simp; (try with_reducible rfl)
            simp only [Act.put, List.setIfInBounds_toArray, List.set_cons_zero, List.set_cons_succ]
            refine takeR (i := 4) (v := ?_) rfl (by kernel_rfl) (by kernel_rfl) (by kernel_rfl) (some 21) rfl (Or.inl ⟨by rfl, ?_⟩) (fun _ _ _ h => h) (by assumption) ?_
            rotate_left
            · intro w hSw; (try dsimp only at hSw); have hcx := cell_later hSw X0; go_simp; (try with_reducible rfl)
            simp only [Act.put, List.setIfInBounds_toArray, List.set_cons_zero, List.set_cons_succ]
            refine takeR (i := 5) (v := ?_) rfl (by kernel_rfl) (by kernel_rfl) (by kernel_rfl) (some 22) rfl (Or.inl ⟨by rfl, ?_⟩) (fun _ _ _ h => h) (by assumption) ?_
            rotate_left
            · intro w hSw; (try dsimp only at hSw); go_simp; (try with_reducible rfl)
            simp only [Act.put, List.setIfInBounds_toArray, List.set_cons_zero, List.set_cons_succ]
            refine takeR (i := 6) (v := ?_) rfl (by kernel_rfl) (by kernel_rfl) (by kernel_rfl) (some 23) rfl (Or.inl ⟨by rfl, ?_⟩) (fun _ _ _ h => h) (by assumption) ?_
            rotate_left
            · intro w hSw; (try dsimp only at hSw); go_simp; (try with_reducible rfl)
            simp only [Act.put, List.setIfInBounds_toArray, List.set_cons_zero, List.set_cons_succ]
            refine takeR (i := 7) (v := ?_) rfl (by kernel_rfl) (by kernel_rfl) (by kernel_rfl) (some 24) rfl (Or.inl ⟨by rfl, ?_⟩) (fun _ _ _ h => h) (by assumption) ?_
            rotate_left
            · intro w hSw; (try dsimp only at hSw); go_simp; (try with_reducible rfl)
            simp only [Act.put, List.setIfInBounds_toArray, List.set_cons_zero, List.set_cons_succ]
            refine takeR (i := 8) (v := ?_) rfl (by kernel_rfl) (by kernel_rfl) (by kernel_rfl) (some 25) rfl (Or.inl ⟨by rfl, ?_⟩) (fun _ _ _ h => h) (by assumption) ?_
            rotate_left
            · intro w hSw; (try dsimp only at hSw); go_simp; (try with_reducible rfl)
            simp only [Act.put, List.setIfInBounds_toArray, List.set_cons_zero, List.set_cons_succ]
            refine takeR (i := 9) (v := ?_) rfl (by kernel_rfl) (by kernel_rfl) (by kernel_rfl) (some 26) rfl (Or.inl ⟨by rfl, ?_⟩) (fun _ _ _ h => h) (by assumption) ?_
            rotate_left
            · intro w hSw; (try dsimp only at hSw); have hcx := cell_later hSw Y0; go_simp; (try with_reducible rfl)
            simp only [Act.put, List.setIfInBounds_toArray, List.set_cons_zero, List.set_cons_succ]
            refine takeR (i := 10) (v := ?_) rfl (by kernel_rfl) (by kernel_rfl) (by kernel_rfl) (some 27) rfl (Or.inl ⟨by rfl, ?_⟩) (fun _ _ _ h => h) (by assumption) ?_
            rotate_left
            · intro w hSw; (try dsimp only at hSw); go_simp; (try with_reducible rfl)
            simp only [Act.put, List.setIfInBounds_toArray, List.set_cons_zero, List.set_cons_succ]
            refine takeR (i := 11) (v := ?_) rfl (by kernel_rfl) (by kernel_rfl) (by kernel_rfl) (some 28) rfl (Or.inl ⟨by rfl, ?_⟩) (fun _ _ _ h => h) (by assumption) ?_
            rotate_left
            · intro w hSw; (try dsimp only at hSw); go_simp; (try with_reducible rfl)
            simp only [Act.put, List.setIfInBounds_toArray, List.set_cons_zero, List.set_cons_succ]
            refine takeR (i := 12) (v := ?_) rfl (by kernel_rfl) (by kernel_rfl) (by kernel_rfl) (some 29) rfl (Or.inl ⟨by rfl, ?_⟩) (fun _ _ _ h => h) (by assumption) ?_
            rotate_left
            · intro w hSw; (try dsimp only at hSw); go_simp; (try with_reducible rfl)
            simp only [Act.put, List.setIfInBounds_toArray, List.set_cons_zero, List.set_cons_succ]
            refine takeR (i := 13) (v := ?_) rfl (by kernel_rfl) (by kernel_rfl) (by kernel_rfl) (some 30) rfl (Or.inl ⟨by rfl, ?_⟩) (fun _ _ _ h => h) (by assumption) ?_
            rotate_left
            · intro w hSw; (try dsimp only at hSw); go_simp; (try with_reducible rfl)
            simp only [Act.put, List.setIfInBounds_toArray, List.set_cons_zero, List.set_cons_succ]
            refine takeR (i := 14) (v := ?_) rfl (by kernel_rfl) (by kernel_rfl) (by kernel_rfl) (some 31) rfl (Or.inl ⟨by rfl, ?_⟩) (fun _ _ _ h => h) (by assumption) ?_
            rotate_left
            · intro w hSw; (try dsimp only at hSw); go_simp; (try with_reducible rfl)
            simp only [Act.put, List.setIfInBounds_toArray, List.set_cons_zero, List.set_cons_succ]
            refine takeR (i := 15) (v := ?_) rfl (by kernel_rfl) (by kernel_rfl) (by kernel_rfl) (some 32) rfl (Or.inl ⟨by rfl, ?_⟩) (fun _ _ _ h => h) (by assumption) ?_
            rotate_left
            · intro w hSw; (try dsimp only at hSw); go_simp; (try with_reducible rfl)
            simp only [Act.put, List.setIfInBounds_toArray, List.set_cons_zero, List.set_cons_succ]
            refine takeR (i := 16) (v := ?_) rfl (by kernel_rfl) (by kernel_rfl) (by kernel_rfl) (some 33) rfl (Or.inl ⟨by rfl, ?_⟩) (fun _ _ _ h => h) (by assumption) ?_
            rotate_left
            · intro w hSw; (try dsimp only at hSw); have hcx := cell_later hSw X1; go_simp; (try with_reducible rfl)
            simp only [Act.put, List.setIfInBounds_toArray, List.set_cons_zero, List.set_cons_succ]
            refine takeR (i := 17) (v := ?_) rfl (by kernel_rfl) (by kernel_rfl) (by kernel_rfl) (some 34) rfl (Or.inl ⟨by rfl, ?_⟩) (fun _ _ _ h => h) (by assumption) ?_
            rotate_left
            · intro w hSw; (try dsimp only at hSw); go_simp; (try with_reducible rfl)
            simp only [Act.put, List.setIfInBounds_toArray, List.set_cons_zero, List.set_cons_succ]
            refine takeR (i := 18) (v := ?_) rfl (by kernel_rfl) (by kernel_rfl) (by kernel_rfl) (some 35) rfl (Or.inl ⟨by rfl, ?_⟩) (fun _ _ _ h => h) (by assumption) ?_
            rotate_left
            · intro w hSw; (try dsimp only at hSw); go_simp; (try with_reducible rfl)
            simp only [Act.put, List.setIfInBounds_toArray, List.set_cons_zero, List.set_cons_succ]
            refine takeR (i := 19) (v := ?_) rfl (by kernel_rfl) (by kernel_rfl) (by kernel_rfl) (some 36) rfl (Or.inl ⟨by rfl, ?_⟩) (fun _ _ _ h => h) (by assumption) ?_
            rotate_left
            · intro w hSw; (try dsimp only at hSw); go_simp; (try with_reducible rfl)
            simp only [Act.put, List.setIfInBounds_toArray, List.set_cons_zero, List.set_cons_succ]
            refine takeR (i := 20) (v := ?_) rfl (by kernel_rfl) (by kernel_rfl) (by kernel_rfl) (some 37) rfl (Or.inl ⟨by rfl, ?_⟩) (fun _ _ _ h => h) (by assumption) ?_
            rotate_left
            · intro w hSw; (try dsimp only at hSw); go_simp; (try with_reducible rfl)
            simp only [Act.put, List.setIfInBounds_toArray, List.set_cons_zero, List.set_cons_succ]
            refine takeR (i := 21) (v := ?_) rfl (by kernel_rfl) (by kernel_rfl) (by kernel_rfl) (some 38) rfl (Or.inl ⟨by rfl, ?_⟩) (fun _ _ _ h => h) (by assumption) ?_
            rotate_left
            · intro w hSw; (try dsimp only at hSw); have hcx := cell_later hSw Y1; go_simp; (try with_reducible rfl)
            simp only [Act.put, List.setIfInBounds_toArray, List.set_cons_zero, List.set_cons_succ]
            refine takeR (i := 22) (v := ?_) rfl (by kernel_rfl) (by kernel_rfl) (by kernel_rfl) (some 39) rfl (Or.inl ⟨by rfl, ?_⟩) (fun _ _ _ h => h) (by assumption) ?_
            rotate_left
            · intro w hSw; (try dsimp only at hSw); go_simp; (try with_reducible rfl)
            simp only [Act.put, List.setIfInBounds_toArray, List.set_cons_zero, List.set_cons_succ]
            refine takeR (i := 23) (v := ?_) rfl (by kernel_rfl) (by kernel_rfl) (by kernel_rfl) (some 40) rfl (Or.inl ⟨by rfl, ?_⟩) (fun _ _ _ h => h) (by assumption) ?_
            rotate_left
            · intro w hSw; (try dsimp only at hSw); go_simp; (try with_reducible rfl)
            simp only [Act.put, List.setIfInBounds_toArray, List.set_cons_zero, List.set_cons_succ]
            refine takeR (i := 24) (v := ?_) rfl (by kernel_rfl) (by kernel_rfl) (by kernel_rfl) (some 41) rfl (Or.inl ⟨by rfl, ?_⟩) (fun _ _ _ h => h) (by assumption) ?_
            rotate_left
            · intro w hSw; (try dsimp only at hSw); go_simp; (try with_reducible rfl)
            simp only [Act.put, List.setIfInBounds_toArray, List.set_cons_zero, List.set_cons_succ]
            refine takeR (i := 25) (v := undef) rfl (by kernel_rfl) (by kernel_rfl) (by kernel_rfl) (some 42) rfl (Or.inr ⟨by rfl, rfl⟩) (fun _ _ _ h => h) (by assumption) ?_
            simp only [Act.put, List.setIfInBounds_toArray, List.set_cons_zero, List.set_cons_succ]
            refine takeR (i := 26) (v := undef) rfl (by kernel_rfl) (by kernel_rfl) (by kernel_rfl) (some 43) rfl (Or.inr ⟨by rfl, rfl⟩) (fun _ _ _ h => h) (by assumption) ?_
            simp only [Act.put, List.setIfInBounds_toArray, List.set_cons_zero, List.set_cons_succ]
            refine takeR (i := 27) (v := undef) rfl (by kernel_rfl) (by kernel_rfl) (by kernel_rfl) (some 44) rfl (Or.inr ⟨by rfl, rfl⟩) (fun _ _ _ h => h) (by assumption) ?_
            simp only [Act.put, List.setIfInBounds_toArray, List.set_cons_zero, List.set_cons_succ]
            refine takeR (i := 28) (v := undef) rfl (by kernel_rfl) (by kernel_rfl) (by kernel_rfl) (some 45) rfl (Or.inr ⟨by rfl, rfl⟩) (fun _ _ _ h => h) (by assumption) ?_
            simp only [Act.put, List.setIfInBounds_toArray, List.set_cons_zero, List.set_cons_succ]
            refine takeR (i := 29) (v := undef) rfl (by kernel_rfl) (by kernel_rfl) (by kernel_rfl) (some 46) rfl (Or.inr ⟨by rfl, rfl⟩) (fun _ _ _ h => h) (by assumption) ?_
            simp only [Act.put, List.setIfInBounds_toArray, List.set_cons_zero, List.set_cons_succ]
            refine takeR (i := 30) (v := undef) rfl (by kernel_rfl) (by kernel_rfl) (by kernel_rfl) (some 47) rfl (Or.inr ⟨by rfl, rfl⟩) (fun _ _ _ h => h) (by assumption) ?_
            simp only [Act.put, List.setIfInBounds_toArray, List.set_cons_zero, List.set_cons_succ]
            refine takeR (i := 31) (v := undef) rfl (by kernel_rfl) (by kernel_rfl) (by kernel_rfl) (some 48) rfl (Or.inr ⟨by rfl, rfl⟩) (fun _ _ _ h => h) (by assumption) ?_
            simp only [Act.put, List.setIfInBounds_toArray, List.set_cons_zero, List.set_cons_succ]
            refine takeR (i := 32) (v := undef) rfl (by kernel_rfl) (by kernel_rfl) (by kernel_rfl) (some 49) rfl (Or.inr ⟨by rfl, rfl⟩) (fun _ _ _ h => h) (by assumption) ?_
            simp only [Act.put, List.setIfInBounds_toArray, List.set_cons_zero, List.set_cons_succ]
            refine takeR (i := 33) (v := undef) rfl (by kernel_rfl) (by kernel_rfl) (by kernel_rfl) (some 50) rfl (Or.inr ⟨by rfl, rfl⟩) (fun _ _ _ h => h) (by assumption) ?_
            simp only [Act.put, List.setIfInBounds_toArray, List.set_cons_zero, List.set_cons_succ]
            refine takeR (i := 34) (v := undef) rfl (by kernel_rfl) (by kernel_rfl) (by kernel_rfl) (some 51) rfl (Or.inr ⟨by rfl, rfl⟩) (fun _ _ _ h => h) (by assumption) ?_
            simp only [Act.put, List.setIfInBounds_toArray, List.set_cons_zero, List.set_cons_succ]
            refine takeR (i := 35) (v := undef) rfl (by kernel_rfl) (by kernel_rfl) (by kernel_rfl) (some 52) rfl (Or.inr ⟨by rfl, rfl⟩) (fun _ _ _ h => h) (by assumption) ?_
            simp only [Act.put, List.setIfInBounds_toArray, List.set_cons_zero, List.set_cons_succ]
            refine takeR (i := 36) (v := ?_) rfl (by kernel_rfl) (by kernel_rfl) (by kernel_rfl) (some 53) rfl (Or.inl ⟨by rfl, ?_⟩) (fun _ _ _ h => h) (by assumption) ?_
            rotate_left
            · intro w hSw; (try dsimp only at hSw); go_simp; (try with_reducible rfl)
            simp only [Act.put, List.setIfInBounds_toArray, List.set_cons_zero, List.set_cons_succ]
            refine takeR (i := 37) (v := ?_) rfl (by kernel_rfl) (by kernel_rfl) (by kernel_rfl) (some 54) rfl (Or.inl ⟨by rfl, ?_⟩) (fun _ _ _ h => h) (by assumption) ?_
            rotate_left
            · intro w hSw; (try dsimp only at hSw); go_simp; (try with_reducible rfl)
            simp only [Act.put, List.setIfInBounds_toArray, List.set_cons_zero, List.set_cons_succ]
            refine takeR (i := 38) (v := undef) rfl (by kernel_rfl) (by kernel_rfl) (by kernel_rfl) (some 55) rfl (Or.inr ⟨by rfl, rfl⟩) (fun _ _ _ h => h) (by assumption) ?_
            simp only [Act.put, List.setIfInBounds_toArray, List.set_cons_zero, List.set_cons_succ]
            refine takeR (i := 39) (v := undef) rfl (by kernel_rfl) (by kernel_rfl) (by kernel_rfl) (some 56) rfl (Or.inr ⟨by rfl, rfl⟩) (fun _ _ _ h => h) (by assumption) ?_
            simp only [Act.put, List.setIfInBounds_toArray, List.set_cons_zero, List.set_cons_succ]
            refine takeR (i := 40) (v := undef) rfl (by kernel_rfl) (by kernel_rfl) (by kernel_rfl) (some 57) rfl (Or.inr ⟨by rfl, rfl⟩) (fun _ _ _ h => h) (by assumption) ?_
            simp only [Act.put, List.setIfInBounds_toArray, List.set_cons_zero, List.set_cons_succ]
            refine takeR (i := 41) (v := undef) rfl (by kernel_rfl) (by kernel_rfl) (by kernel_rfl) (some 58) rfl (Or.inr ⟨by rfl, rfl⟩) (fun _ _ _ h => h) (by assumption) ?_
            simp only [Act.put, List.setIfInBounds_toArray, List.set_cons_zero, List.set_cons_succ]
            refine takeR (i := 42) (v := undef) rfl (by kernel_rfl) (by kernel_rfl) (by kernel_rfl) (some 59) rfl (Or.inr ⟨by rfl, rfl⟩) (fun _ _ _ h => h) (by assumption) ?_
            simp only [Act.put, List.setIfInBounds_toArray, List.set_cons_zero, List.set_cons_succ]
            refine takeR (i := 43) (v := undef) rfl (by kernel_rfl) (by kernel_rfl) (by kernel_rfl) (some 60) rfl (Or.inr ⟨by rfl, rfl⟩) (fun _ _ _ h => h) (by assumption) ?_
            simp only [Act.put, List.setIfInBounds_toArray, List.set_cons_zero, List.set_cons_succ]
            refine takeR (i := 44) (v := undef) rfl (by kernel_rfl) (by kernel_rfl) (by kernel_rfl) (some 61) rfl (Or.inr ⟨by rfl, rfl⟩) (fun _ _ _ h => h) (by assumption) ?_
            simp only [Act.put, List.setIfInBounds_toArray, List.set_cons_zero, List.set_cons_succ]
            refine takeR (i := 45) (v := undef) rfl (by kernel_rfl) (by kernel_rfl) (by kernel_rfl) (some 62) rfl (Or.inr ⟨by rfl, rfl⟩) (fun _ _ _ h => h) (by assumption) ?_
            simp only [Act.put, List.setIfInBounds_toArray, List.set_cons_zero, List.set_cons_succ]
            refine takeR (i := 46) (v := undef) rfl (by kernel_rfl) (by kernel_rfl) (by kernel_rfl) (some 63) rfl (Or.inr ⟨by rfl, rfl⟩) (fun _ _ _ h => h) (by assumption) ?_
            simp only [Act.put, List.setIfInBounds_toArray, List.set_cons_zero, List.set_cons_succ]
            refine takeR (i := 47) (v := undef) rfl (by kernel_rfl) (by kernel_rfl) (by kernel_rfl) (some 64) rfl (Or.inr ⟨by rfl, rfl⟩) (fun _ _ _ h => h) (by assumption) ?_
            simp only [Act.put, List.setIfInBounds_toArray, List.set_cons_zero, List.set_cons_succ]
            refine takeR (i := 48) (v := undef) rfl (by kernel_rfl) (by kernel_rfl) (by kernel_rfl) (some 65) rfl (Or.inr ⟨by rfl, rfl⟩) (fun _ _ _ h => h) (by assumption) ?_
            simp only [Act.put, List.setIfInBounds_toArray, List.set_cons_zero, List.set_cons_succ]
            refine takeR (i := 49) (v := undef) rfl (by kernel_rfl) (by kernel_rfl) (by kernel_rfl) (some 66) rfl (Or.inr ⟨by rfl, rfl⟩) (fun _ _ _ h => h) (by assumption) ?_
            simp only [Act.put, List.setIfInBounds_toArray, List.set_cons_zero, List.set_cons_succ]
            refine takeR (i := 50) (v := ?_) rfl (by kernel_rfl) (by kernel_rfl) (by kernel_rfl) (some 67) rfl (Or.inl ⟨by rfl, ?_⟩) (fun _ _ _ h => h) (by assumption) ?_
            rotate_left
            · intro w hSw; (try dsimp only at hSw); go_simp; (try with_reducible rfl)
            simp only [Act.put, List.setIfInBounds_toArray, List.set_cons_zero, List.set_cons_succ]
            refine wpAnyH_done (by kernel_rfl) ?_ _
            go_wp2
            go_ret
            refine ⟨?_, hb.trans (kb0.mono hb.size)⟩
            rw [← HR.out, sameBL_false (take_diffB HX.out HY.out HD.out)]
            rfl
        · have d1 : (a1 != a2) = true := by simpa using e1
          have HD := hide_ (fun h : ((a1, b1, c1, M1) : BK) = (a2, b2, c2, M2) => e1 (congrArg (fun o : BK => o.1) h))
          clear e1
          go_wp2_with fail
          try simp only [Act.put]
          refine wp_region_held_drew (S := (fun w' => Below wr.heap.size wr w')) (by kernel_rfl) ((Below.refl _ _).drew) (fun hHeld => ?_)
          have kb0 : Below wr.heap.size wr wr.drew := (Below.refl _ _).drew
          generalize wr.drew = D0 at *
          refine takeR (i := 0) (v := ?_) rfl (by kernel_rfl) (by kernel_rfl) (by kernel_rfl) (some 17) rfl (Or.inl ⟨by rfl, ?_⟩) (fun _ _ _ h => h) (by assumption) ?_
          rotate_left
          · intro w hSw; (try dsimp only at hSw); go_simp; (try with_reducible rfl)
          simp only [Act.put, List.setIfInBounds_toArray, List.set_cons_zero, List.set_cons_succ]
          refine takeR (i := 1) (v := ?_) rfl (by kernel_rfl) (by kernel_rfl) (by kernel_rfl) (some 18) rfl (Or.inl ⟨by rfl, ?_⟩) (fun _ _ _ h => h) (by assumption) ?_
          rotate_left
          · intro w hSw; (try dsimp only at hSw); go_simp; (try with_reducible rfl)
          simp only [Act.put, List.setIfInBounds_toArray, List.set_cons_zero, List.set_cons_succ]
          refine takeR (i := 2) (v := ?_) rfl (by kernel_rfl) (by kernel_rfl) (by kernel_rfl) (some 19) rfl (Or.inl ⟨by rfl, ?_⟩) (fun _ _ _ h => h) (by assumption) ?_
          rotate_left
          · intro w hSw; (try dsimp only at hSw); go_simp; (try with_reducible rfl)
          simp only [Act.put, List.setIfInBounds_toArray, List.set_cons_zero, List.set_cons_succ]
          refine takeR (i := 3) (v := ?_) rfl (by kernel_rfl) (by kernel_rfl) (by kernel_rfl) (some 20) rfl (Or.inl ⟨by rfl, ?_⟩) (fun _ _ _ h => h) (by assumption) ?_
          rotate_left
          · intro w hSw; (try dsimp only at hSw); go_simp; (try with_reducible rfl)
          simp only [Act.put, List.setIfInBounds_toArray, List.set_cons_zero, List.set_cons_succ]
          refine takeR (i := 4) (v := ?_) rfl (by kernel_rfl) (by kernel_rfl) (by kernel_rfl) (some 21) rfl (Or.inl ⟨by rfl, ?_⟩) (fun _ _ _ h => h) (by assumption) ?_
          rotate_left
          · intro w hSw; (try dsimp only at hSw); have hcx := cell_later hSw X0; go_simp; (try with_reducible rfl)
          simp only [Act.put, List.setIfInBounds_toArray, List.set_cons_zero, List.set_cons_succ]
          refine takeR (i := 5) (v := ?_) rfl (by kernel_rfl) (by kernel_rfl) (by kernel_rfl) (some 22) rfl (Or.inl ⟨by rfl, ?_⟩) (fun _ _ _ h => h) (by assumption) ?_
          rotate_left
          · intro w hSw; (try dsimp only at hSw); go_simp; (try with_reducible rfl)
          simp only [Act.put, List.setIfInBounds_toArray, List.set_cons_zero, List.set_cons_succ]
          refine takeR (i := 6) (v := ?_) rfl (by kernel_rfl) (by kernel_rfl) (by kernel_rfl) (some 23) rfl (Or.inl ⟨by rfl, ?_⟩) (fun _ _ _ h => h) (by assumption) ?_
          rotate_left
          · intro w hSw; (try dsimp only at hSw); go_simp; (try with_reducible rfl)
          simp only [Act.put, List.setIfInBounds_toArray, List.set_cons_zero, List.set_cons_succ]
          refine takeR (i := 7) (v := ?_) rfl (by kernel_rfl) (by kernel_rfl) (by kernel_rfl) (some 24) rfl (Or.inl ⟨by rfl, ?_⟩) (fun _ _ _ h => h) (by assumption) ?_
          rotate_left
          · intro w hSw; (try dsimp only at hSw); go_simp; (try with_reducible rfl)
          simp only [Act.put, List.setIfInBounds_toArray, List.set_cons_zero, List.set_cons_succ]
          refine takeR (i := 8) (v := ?_) rfl (by kernel_rfl) (by kernel_rfl) (by kernel_rfl) (some 25) rfl (Or.inl ⟨by rfl, ?_⟩) (fun _ _ _ h => h) (by assumption) ?_
          rotate_left
          · intro w hSw; (try dsimp only at hSw); go_simp; (try with_reducible rfl)
          simp only [Act.put, List.setIfInBounds_toArray, List.set_cons_zero, List.set_cons_succ]
          refine takeR (i := 9) (v := ?_) rfl (by kernel_rfl) (by kernel_rfl) (by kernel_rfl) (some 26) rfl (Or.inl ⟨by rfl, ?_⟩) (fun _ _ _ h => h) (by assumption) ?_
          rotate_left
          · intro w hSw; (try dsimp only at hSw); have hcx := cell_later hSw Y0; go_simp; (try with_reducible rfl)
          simp only [Act.put, List.setIfInBounds_toArray, List.set_cons_zero, List.set_cons_succ]
          refine takeR (i := 10) (v := ?_) rfl (by kernel_rfl) (by kernel_rfl) (by kernel_rfl) (some 27) rfl (Or.inl ⟨by rfl, ?_⟩) (fun _ _ _ h => h) (by assumption) ?_
          rotate_left
          · intro w hSw; (try dsimp only at hSw); go_simp; (try with_reducible rfl)
          simp only [Act.put, List.setIfInBounds_toArray, List.set_cons_zero, List.set_cons_succ]
          refine takeR (i := 11) (v := ?_) rfl (by kernel_rfl) (by kernel_rfl) (by kernel_rfl) (some 28) rfl (Or.inl ⟨by rfl, ?_⟩) (fun _ _ _ h => h) (by assumption) ?_
          rotate_left
          · intro w hSw; (try dsimp only at hSw); go_simp; (try with_reducible rfl)
          simp only [Act.put, List.setIfInBounds_toArray, List.set_cons_zero, List.set_cons_succ]
          refine takeR (i := 12) (v := undef) rfl (by kernel_rfl) (by kernel_rfl) (by kernel_rfl) (some 29) rfl (Or.inr ⟨by rfl, rfl⟩) (fun _ _ _ h => h) (by assumption) ?_
          simp only [Act.put, List.setIfInBounds_toArray, List.set_cons_zero, List.set_cons_succ]
          refine takeR (i := 13) (v := undef) rfl (by kernel_rfl) (by kernel_rfl) (by kernel_rfl) (some 30) rfl (Or.inr ⟨by rfl, rfl⟩) (fun _ _ _ h => h) (by assumption) ?_
          simp only [Act.put, List.setIfInBounds_toArray, List.set_cons_zero, List.set_cons_succ]
          refine takeR (i := 14) (v := undef) rfl (by kernel_rfl) (by kernel_rfl) (by kernel_rfl) (some 31) rfl (Or.inr ⟨by rfl, rfl⟩) (fun _ _ _ h => h) (by assumption) ?_
          simp only [Act.put, List.setIfInBounds_toArray, List.set_cons_zero, List.set_cons_succ]
          refine takeR (i := 15) (v := undef) rfl (by kernel_rfl) (by kernel_rfl) (by kernel_rfl) (some 32) rfl (Or.inr ⟨by rfl, rfl⟩) (fun _ _ _ h => h) (by assumption) ?_
          simp only [Act.put, List.setIfInBounds_toArray, List.set_cons_zero, List.set_cons_succ]
          refine takeR (i := 16) (v := undef) rfl (by kernel_rfl) (by kernel_rfl) (by kernel_rfl) (some 33) rfl (Or.inr ⟨by rfl, rfl⟩) (fun _ _ _ h => h) (by assumption) ?_
          simp only [Act.put, List.setIfInBounds_toArray, List.set_cons_zero, List.set_cons_succ]
          refine takeR (i := 17) (v := undef) rfl (by kernel_rfl) (by kernel_rfl) (by kernel_rfl) (some 34) rfl (Or.inr ⟨by rfl, rfl⟩) (fun _ _ _ h => h) (by assumption) ?_
          simp only [Act.put, List.setIfInBounds_toArray, List.set_cons_zero, List.set_cons_succ]
          refine takeR (i := 18) (v := undef) rfl (by kernel_rfl) (by kernel_rfl) (by kernel_rfl) (some 35) rfl (Or.inr ⟨by rfl, rfl⟩) (fun _ _ _ h => h) (by assumption) ?_
          simp only [Act.put, List.setIfInBounds_toArray, List.set_cons_zero, List.set_cons_succ]
          refine takeR (i := 19) (v := undef) rfl (by kernel_rfl) (by kernel_rfl) (by kernel_rfl) (some 36) rfl (Or.inr ⟨by rfl, rfl⟩) (fun _ _ _ h => h) (by assumption) ?_
          simp only [Act.put, List.setIfInBounds_toArray, List.set_cons_zero, List.set_cons_succ]
          refine takeR (i := 20) (v := undef) rfl (by kernel_rfl) (by kernel_rfl) (by kernel_rfl) (some 37) rfl (Or.inr ⟨by rfl, rfl⟩) (fun _ _ _ h => h) (by assumption) ?_
          simp only [Act.put, List.setIfInBounds_toArray, List.set_cons_zero, List.set_cons_succ]
          refine takeR (i := 21) (v := undef) rfl (by kernel_rfl) (by kernel_rfl) (by kernel_rfl) (some 38) rfl (Or.inr ⟨by rfl, rfl⟩) (fun _ _ _ h => h) (by assumption) ?_
          simp only [Act.put, List.setIfInBounds_toArray, List.set_cons_zero, List.set_cons_succ]
          refine takeR (i := 22) (v := undef) rfl (by kernel_rfl) (by kernel_rfl) (by kernel_rfl) (some 39) rfl (Or.inr ⟨by rfl, rfl⟩) (fun _ _ _ h => h) (by assumption) ?_
          simp only [Act.put, List.setIfInBounds_toArray, List.set_cons_zero, List.set_cons_succ]
          refine takeR (i := 23) (v := ?_) rfl (by kernel_rfl) (by kernel_rfl) (by kernel_rfl) (some 40) rfl (Or.inl ⟨by rfl, ?_⟩) (fun _ _ _ h => h) (by assumption) ?_
          rotate_left
          · intro w hSw; (try dsimp only at hSw); go_simp; (try with_reducible rfl)
          simp only [Act.put, List.setIfInBounds_toArray, List.set_cons_zero, List.set_cons_succ]
          refine takeR (i := 24) (v := ?_) rfl (by kernel_rfl) (by kernel_rfl) (by kernel_rfl) (some 41) rfl (Or.inl ⟨by rfl, ?_⟩) (fun _ _ _ h => h) (by assumption) ?_
          rotate_left
          · intro w hSw; (try dsimp only at hSw); go_simp; (try with_reducible rfl)
          simp only [Act.put, List.setIfInBounds_toArray, List.set_cons_zero, List.set_cons_succ]
          refine takeR (i := 25) (v := undef) rfl (by kernel_rfl) (by kernel_rfl) (by kernel_rfl) (some 42) rfl (Or.inr ⟨by rfl, rfl⟩) (fun _ _ _ h => h) (by assumption) ?_
          simp only [Act.put, List.setIfInBounds_toArray, List.set_cons_zero, List.set_cons_succ]
          refine takeR (i := 26) (v := undef) rfl (by kernel_rfl) (by kernel_rfl) (by kernel_rfl) (some 43) rfl (Or.inr ⟨by rfl, rfl⟩) (fun _ _ _ h => h) (by assumption) ?_
          simp only [Act.put, List.setIfInBounds_toArray, List.set_cons_zero, List.set_cons_succ]
          refine takeR (i := 27) (v := undef) rfl (by kernel_rfl) (by kernel_rfl) (by kernel_rfl) (some 44) rfl (Or.inr ⟨by rfl, rfl⟩) (fun _ _ _ h => h) (by assumption) ?_
          simp only [Act.put, List.setIfInBounds_toArray, List.set_cons_zero, List.set_cons_succ]
          refine takeR (i := 28) (v := undef) rfl (by kernel_rfl) (by kernel_rfl) (by kernel_rfl) (some 45) rfl (Or.inr ⟨by rfl, rfl⟩) (fun _ _ _ h => h) (by assumption) ?_
          simp only [Act.put, List.setIfInBounds_toArray, List.set_cons_zero, List.set_cons_succ]
          refine takeR (i := 29) (v := undef) rfl (by kernel_rfl) (by kernel_rfl) (by kernel_rfl) (some 46) rfl (Or.inr ⟨by rfl, rfl⟩) (fun _ _ _ h => h) (by assumption) ?_
          simp only [Act.put, List.setIfInBounds_toArray, List.set_cons_zero, List.set_cons_succ]
          refine takeR (i := 30) (v := undef) rfl (by kernel_rfl) (by kernel_rfl) (by kernel_rfl) (some 47) rfl (Or.inr ⟨by rfl, rfl⟩) (fun _ _ _ h => h) (by assumption) ?_
          simp only [Act.put, List.setIfInBounds_toArray, List.set_cons_zero, List.set_cons_succ]
          refine takeR (i := 31) (v := undef) rfl (by kernel_rfl) (by kernel_rfl) (by kernel_rfl) (some 48) rfl (Or.inr ⟨by rfl, rfl⟩) (fun _ _ _ h => h) (by assumption) ?_
          simp only [Act.put, List.setIfInBounds_toArray, List.set_cons_zero, List.set_cons_succ]
          refine takeR (i := 32) (v := undef) rfl (by kernel_rfl) (by kernel_rfl) (by kernel_rfl) (some 49) rfl (Or.inr ⟨by rfl, rfl⟩) (fun _ _ _ h => h) (by assumption) ?_
          simp only [Act.put, List.setIfInBounds_toArray, List.set_cons_zero, List.set_cons_succ]
          refine takeR (i := 33) (v := undef) rfl (by kernel_rfl) (by kernel_rfl) (by kernel_rfl) (some 50) rfl (Or.inr ⟨by rfl, rfl⟩) (fun _ _ _ h => h) (by assumption) ?_
          simp only [Act.put, List.setIfInBounds_toArray, List.set_cons_zero, List.set_cons_succ]
          refine takeR (i := 34) (v := undef) rfl (by kernel_rfl) (by kernel_rfl) (by kernel_rfl) (some 51) rfl (Or.inr ⟨by rfl, rfl⟩) (fun _ _ _ h => h) (by assumption) ?_
          simp only [Act.put, List.setIfInBounds_toArray, List.set_cons_zero, List.set_cons_succ]
          refine takeR (i := 35) (v := undef) rfl (by kernel_rfl) (by kernel_rfl) (by kernel_rfl) (some 52) rfl (Or.inr ⟨by rfl, rfl⟩) (fun _ _ _ h => h) (by assumption) ?_
          simp only [Act.put, List.setIfInBounds_toArray, List.set_cons_zero, List.set_cons_succ]
          refine takeR (i := 36) (v := ?_) rfl (by kernel_rfl) (by kernel_rfl) (by kernel_rfl) (some 53) rfl (Or.inl ⟨by rfl, ?_⟩) (fun _ _ _ h => h) (by assumption) ?_
          rotate_left
          · intro w hSw; (try dsimp only at hSw); go_simp; (try with_reducible rfl)
          simp only [Act.put, List.setIfInBounds_toArray, List.set_cons_zero, List.set_cons_succ]
          refine takeR (i := 37) (v := ?_) rfl (by kernel_rfl) (by kernel_rfl) (by kernel_rfl) (some 54) rfl (Or.inl ⟨by rfl, ?_⟩) (fun _ _ _ h => h) (by assumption) ?_
          rotate_left
          · intro w hSw; (try dsimp only at hSw); go_simp; (try with_reducible rfl)
          simp only [Act.put, List.setIfInBounds_toArray, List.set_cons_zero, List.set_cons_succ]
          refine takeR (i := 38) (v := undef) rfl (by kernel_rfl) (by kernel_rfl) (by kernel_rfl) (some 55) rfl (Or.inr ⟨by rfl, rfl⟩) (fun _ _ _ h => h) (by assumption) ?_
          simp only [Act.put, List.setIfInBounds_toArray, List.set_cons_zero, List.set_cons_succ]
          refine takeR (i := 39) (v := undef) rfl (by kernel_rfl) (by kernel_rfl) (by kernel_rfl) (some 56) rfl (Or.inr ⟨by rfl, rfl⟩) (fun _ _ _ h => h) (by assumption) ?_
          simp only [Act.put, List.setIfInBounds_toArray, List.set_cons_zero, List.set_cons_succ]
          refine takeR (i := 40) (v := undef) rfl (by kernel_rfl) (by kernel_rfl) (by kernel_rfl) (some 57) rfl (Or.inr ⟨by rfl, rfl⟩) (fun _ _ _ h => h) (by assumption) ?_
          simp only [Act.put, List.setIfInBounds_toArray, List.set_cons_zero, List.set_cons_succ]
          refine takeR (i := 41) (v := undef) rfl (by kernel_rfl) (by kernel_rfl) (by kernel_rfl) (some 58) rfl (Or.inr ⟨by rfl, rfl⟩) (fun _ _ _ h => h) (by assumption) ?_
          simp only [Act.put, List.setIfInBounds_toArray, List.set_cons_zero, List.set_cons_succ]
          refine takeR (i := 42) (v := undef) rfl (by kernel_rfl) (by kernel_rfl) (by kernel_rfl) (some 59) rfl (Or.inr ⟨by rfl, rfl⟩) (fun _ _ _ h => h) (by assumption) ?_
          simp only [Act.put, List.setIfInBounds_toArray, List.set_cons_zero, List.set_cons_succ]
          refine takeR (i := 43) (v := undef) rfl (by kernel_rfl) (by kernel_rfl) (by kernel_rfl) (some 60) rfl (Or.inr ⟨by rfl, rfl⟩) (fun _ _ _ h => h) (by assumption) ?_
          simp only [Act.put, List.setIfInBounds_toArray, List.set_cons_zero, List.set_cons_succ]
          refine takeR (i := 44) (v := undef) rfl (by kernel_rfl) (by kernel_rfl) (by kernel_rfl) (some 61) rfl (Or.inr ⟨by rfl, rfl⟩) (fun _ _ _ h => h) (by assumption) ?_
          simp only [Act.put, List.setIfInBounds_toArray, List.set_cons_zero, List.set_cons_succ]
          refine takeR (i := 45) (v := undef) rfl (by kernel_rfl) (by kernel_rfl) (by kernel_rfl) (some 62) rfl (Or.inr ⟨by rfl, rfl⟩) (fun _ _ _ h => h) (by assumption) ?_
          simp only [Act.put, List.setIfInBounds_toArray, List.set_cons_zero, List.set_cons_succ]
          refine takeR (i := 46) (v := undef) rfl (by kernel_rfl) (by kernel_rfl) (by kernel_rfl) (some 63) rfl (Or.inr ⟨by rfl, rfl⟩) (fun _ _ _ h => h) (by assumption) ?_
          simp only [Act.put, List.setIfInBounds_toArray, List.set_cons_zero, List.set_cons_succ]
          refine takeR (i := 47) (v := undef) rfl (by kernel_rfl) (by kernel_rfl) (by kernel_rfl) (some 64) rfl (Or.inr ⟨by rfl, rfl⟩) (fun _ _ _ h => h) (by assumption) ?_
          simp only [Act.put, List.setIfInBounds_toArray, List.set_cons_zero, List.set_cons_succ]
          refine takeR (i := 48) (v := undef) rfl (by kernel_rfl) (by kernel_rfl) (by kernel_rfl) (some 65) rfl (Or.inr ⟨by rfl, rfl⟩) (fun _ _ _ h => h) (by assumption) ?_
          simp only [Act.put, List.setIfInBounds_toArray, List.set_cons_zero, List.set_cons_succ]
          refine takeR (i := 49) (v := undef) rfl (by kernel_rfl) (by kernel_rfl) (by kernel_rfl) (some 66) rfl (Or.inr ⟨by rfl, rfl⟩) (fun _ _ _ h => h) (by assumption) ?_
          simp only [Act.put, List.setIfInBounds_toArray, List.set_cons_zero, List.set_cons_succ]
          refine takeR (i := 50) (v := ?_) rfl (by kernel_rfl) (by kernel_rfl) (by kernel_rfl) (some 67) rfl (Or.inl ⟨by rfl, ?_⟩) (fun _ _ _ h => h) (by assumption) ?_
          rotate_left
          · intro w hSw; (try dsimp only at hSw); go_simp; (try with_reducible rfl)
          simp only [Act.put, List.setIfInBounds_toArray, List.set_cons_zero, List.set_cons_succ]
          refine wpAnyH_done (by kernel_rfl) ?_ _
          go_wp2
          go_ret
          refine ⟨?_, hb.trans (kb0.mono hb.size)⟩
          rw [← HR.out, sameBL_false (take_diffB HX.out HY.out HD.out)]
          rfl
      · have hlt' : ¬ (j : Int) < (L.length : Int) := by omega
        go_wp2
        go_ret
        refine ⟨?_, hb⟩
        have e := HT.out
        rw [List.take_of_length_le (by omega), List.take_of_length_le (by have := HE.out; omega)] at e
        rw [← HR.out, sameBL_true e]
        rfl
  · have g0 : ((L.length : Int) != (K.length : Int)) = true := by simp; omega
    have g1 : ((L.length : Int) == (K.length : Int)) = false := by simp; omega
    have e : ¬ L = K := fun h => hlen (by rw [h])
    rw [sameBL_false e]
    go_enter Tryz.func65, Tryz.ntmps65
    go_wp2
    go_ret
    exact ⟨rfl, Below.refl _ _⟩
end

end Go.Proofs.YthhijfphfcmniaaGreat

namespace Go.Proofs.YthhijfphfcmniaaGreat
open Go Go.RowKit
set_option linter.unusedVariables false
set_option linter.unusedSimpArgs false

theorem rgben {v : Value} {L : List BK} {w : World} (hL : BuckAt w v L) (hF : BFit L) (z : Bool) (hz : gB L = z) : ∀ W, Below w.heap.size w W → Calls Tryz.prog 61 #[v] W fun e w' => ∃ r, e = .returned (.tuple #[r, .int .i64 (if z then 0 else 1)]) ∧ OwnB w' W.heap.size r (if z then encK L else []) ∧ Below W.heap.size W w' := fun W hW => by
  subst hz
  have := rbe_all (hL.later hW) hF (gB_ben (L := L))
  exact this
theorem rput_ownG (v : Value) (l : List Int) (n s : Int) (w : World) (hB : Bytes w v l) (hl : l.length ≤ 1000) (hr : rightB n s = true) (hs : isB (spl n s)) :
    Calls Tryz.prog 36 #[v, .int .i64 n, .int .i64 s] w fun e w' => ∃ r, e = .returned r ∧ OwnB w' w.heap.size r (l ++ spl n s) ∧ Below w.heap.size w w' :=
  (rput_any v l n s w hB (by omega) hr).mono fun e w' ⟨r, h1, h2, h3⟩ => ⟨r, h1, ⟨h2, by
    obtain ⟨_, _, _, _, _, hb, _⟩ := hB
    exact hb.app hs⟩, h3⟩
theorem keepB4 {n m : Nat} {wa wb w0 : World} {x0 x1 x2 x3 : Value} (k : Below (n + 1) wa wb) (h : wa.cell? ⟨n, 0, none⟩ = some x0 ∧ wa.cell? ⟨n, 1, none⟩ = some x1 ∧ wa.cell? ⟨n, 2, none⟩ = some x2 ∧ wa.cell? ⟨n, 3, none⟩ = some x3 ∧ Below m w0 wa) (hm : m ≤ n + 1) :
    wb.cell? ⟨n, 0, none⟩ = some x0 ∧ wb.cell? ⟨n, 1, none⟩ = some x1 ∧ wb.cell? ⟨n, 2, none⟩ = some x2 ∧ wb.cell? ⟨n, 3, none⟩ = some x3 ∧ Below m w0 wb := by
  have hb := k.block n (Nat.lt_succ_self n)
  refine ⟨?_, ?_, ?_, ?_, h.2.2.2.2.trans (k.mono hm)⟩
  · rw [World.cell?_of_block (a := ⟨n, 0, none⟩) hb]; exact h.1
  · rw [World.cell?_of_block (a := ⟨n, 1, none⟩) hb]; exact h.2.1
  · rw [World.cell?_of_block (a := ⟨n, 2, none⟩) hb]; exact h.2.2.1
  · rw [World.cell?_of_block (a := ⟨n, 3, none⟩) hb]; exact h.2.2.2.1
set_option maxRecDepth 100000 in
set_option maxHeartbeats 8000000 in
theorem rgright_any (c k i : Int) (su : Option Addr) (n cu : Nat) (L : List BK) (w : World) (hL : BuckAt w (.slice su n cu) L) (hF : BFit L) : Calls Tryz.prog 28 #[.agg #[.int .i64 c, .int .i64 k, .int .i64 i, .slice su n cu]] w fun e w' => e = .returned (.bool (gR c k i L)) ∧ Below w.heap.size w w' := by
  have A0 := hide_ (AB.at0 w 50 [.int .i64 c, .int .i64 k, .int .i64 i, .slice su n cu])
  have B0 := hide_ (below1 w (.cells #[.int .i64 c, .int .i64 k, .int .i64 i, .slice su n cu] 50))
  obtain ⟨x0, x1, x2, x3, -⟩ := A0.out.k4
  have hR : gR c k i L = ((cR c && (kR k && rightB i 4)) && gB L) := rfl
  rw [hR]
  clear hR
  cases h4 : gB L
  · have qe := hide_ (rgben hL hF false h4)
    rw [Bool.and_false]
    clear h4
    clear hL hF
    go_enter Tryz.func28, Tryz.ntmps28
    go_wp2_with (first | (go_at_call 61; refine (qe.out _ B0.out).mono ?_; rintro e w2 ⟨r, rfl, hO, b2⟩; obtain ⟨s2, c2, rfl⟩ := own_sliceB hO; have HO := hide_ (hO.mono B0.out.size); have k2 := hide_ (B0.out.trans (b2.mono B0.out.size)); have A2 := hide_ (A0.out.later b2); obtain ⟨z0, z1, z2, z3, -⟩ := A2.out.k4; clear hO b2) | (go_at_call 62; refine (rright_any _ _ _).mono ?_; rintro e w9 ⟨rfl, e9⟩; subst e9))
    go_ret
    exact ⟨by first | rfl | simp, k2.out⟩
  · have qe := hide_ (rgben hL hF true h4)
    rw [Bool.and_true]
    clear h4
    generalize hrt : rightB i 4 = z at *
    have hrr := fun w => rright_any i 4 w
    rw [hrt] at hrr
    clear hrt
    by_cases h0 : c < 0
    · have e1 : cR c = false := by unfold cR; simp; omega
      have g1 : ¬ 0 ≤ c := by omega
      rw [e1, Bool.false_and]
      clear e1
      clear hL hF
      go_enter Tryz.func28, Tryz.ntmps28
      go_wp2_with (first | (go_at_call 61; refine (qe.out _ B0.out).mono ?_; rintro e w2 ⟨r, rfl, hO, b2⟩; obtain ⟨s2, c2, rfl⟩ := own_sliceB hO; have HO := hide_ (hO.mono B0.out.size); have k2 := hide_ (B0.out.trans (b2.mono B0.out.size)); have A2 := hide_ (A0.out.later b2); obtain ⟨z0, z1, z2, z3, -⟩ := A2.out.k4; clear hO b2) | (go_at_call 62; refine (rright_any _ _ _).mono ?_; rintro e w9 ⟨rfl, e9⟩; subst e9))
      go_ret
      exact ⟨by first | rfl | simp, k2.out⟩
    · by_cases h1 : 2 < c
      · have e1 : cR c = false := by unfold cR; simp; omega
        have g1 : 0 ≤ c := by omega
        have g2 : ¬ c ≤ 2 := by omega
        rw [e1, Bool.false_and]
        clear e1
        clear hL hF
        go_enter Tryz.func28, Tryz.ntmps28
        go_wp2_with (first | (go_at_call 61; refine (qe.out _ B0.out).mono ?_; rintro e w2 ⟨r, rfl, hO, b2⟩; obtain ⟨s2, c2, rfl⟩ := own_sliceB hO; have HO := hide_ (hO.mono B0.out.size); have k2 := hide_ (B0.out.trans (b2.mono B0.out.size)); have A2 := hide_ (A0.out.later b2); obtain ⟨z0, z1, z2, z3, -⟩ := A2.out.k4; clear hO b2) | (go_at_call 62; refine (rright_any _ _ _).mono ?_; rintro e w9 ⟨rfl, e9⟩; subst e9))
        go_ret
        exact ⟨by first | rfl | simp, k2.out⟩
      · have e1 : cR c = true := by unfold cR; simp; omega
        have g1 : 0 ≤ c := by omega
        have g2 : c ≤ 2 := by omega
        rw [e1, Bool.true_and]
        clear e1
        by_cases h2 : k < 0
        · have e1 : kR k = false := by unfold kR; simp; omega
          have g3 : ¬ 0 ≤ k := by omega
          rw [e1, Bool.false_and]
          clear e1
          clear hL hF
          go_enter Tryz.func28, Tryz.ntmps28
          go_wp2_with (first | (go_at_call 61; refine (qe.out _ B0.out).mono ?_; rintro e w2 ⟨r, rfl, hO, b2⟩; obtain ⟨s2, c2, rfl⟩ := own_sliceB hO; have HO := hide_ (hO.mono B0.out.size); have k2 := hide_ (B0.out.trans (b2.mono B0.out.size)); have A2 := hide_ (A0.out.later b2); obtain ⟨z0, z1, z2, z3, -⟩ := A2.out.k4; clear hO b2) | (go_at_call 62; refine (rright_any _ _ _).mono ?_; rintro e w9 ⟨rfl, e9⟩; subst e9))
          go_ret
          exact ⟨by first | rfl | simp, k2.out⟩
        · by_cases h3 : 3 < k
          · have e1 : kR k = false := by unfold kR; simp; omega
            have g3 : 0 ≤ k := by omega
            have g4 : ¬ k ≤ 3 := by omega
            rw [e1, Bool.false_and]
            clear e1
            clear hL hF
            go_enter Tryz.func28, Tryz.ntmps28
            go_wp2_with (first | (go_at_call 61; refine (qe.out _ B0.out).mono ?_; rintro e w2 ⟨r, rfl, hO, b2⟩; obtain ⟨s2, c2, rfl⟩ := own_sliceB hO; have HO := hide_ (hO.mono B0.out.size); have k2 := hide_ (B0.out.trans (b2.mono B0.out.size)); have A2 := hide_ (A0.out.later b2); obtain ⟨z0, z1, z2, z3, -⟩ := A2.out.k4; clear hO b2) | (go_at_call 62; refine (rright_any _ _ _).mono ?_; rintro e w9 ⟨rfl, e9⟩; subst e9))
            go_ret
            exact ⟨by first | rfl | simp, k2.out⟩
          · have e1 : kR k = true := by unfold kR; simp; omega
            have g3 : 0 ≤ k := by omega
            have g4 : k ≤ 3 := by omega
            rw [e1, Bool.true_and]
            clear e1
            clear hL hF
            go_enter Tryz.func28, Tryz.ntmps28
            go_wp2_with (first | (go_at_call 61; refine (qe.out _ B0.out).mono ?_; rintro e w2 ⟨r, rfl, hO, b2⟩; obtain ⟨s2, c2, rfl⟩ := own_sliceB hO; have HO := hide_ (hO.mono B0.out.size); have k2 := hide_ (B0.out.trans (b2.mono B0.out.size)); have A2 := hide_ (A0.out.later b2); obtain ⟨z0, z1, z2, z3, -⟩ := A2.out.k4; clear hO b2) | (go_at_call 62; refine (hrr _).mono ?_; rintro e w9 ⟨rfl, e9⟩; subst e9))
            go_ret
            exact ⟨by first | rfl | simp, k2.out⟩

end Go.Proofs.YthhijfphfcmniaaGreat

namespace Go.Proofs.YthhijfphfcmniaaGreat
open Go Go.RowKit
set_option linter.unusedVariables false
set_option linter.unusedSimpArgs false

set_option maxRecDepth 100000 in
set_option maxHeartbeats 8000000 in
theorem rgenc_no (c k i : Int) (su : Option Addr) (n cu : Nat) (L : List BK) (w : World) (hL : BuckAt w (.slice su n cu) L) (hF : BFit L) (h : gR c k i L = false) : Calls Tryz.prog 26 #[.agg #[.int .i64 c, .int .i64 k, .int .i64 i, .slice su n cu]] w fun e w' => e = .returned (.tuple #[.slice none 0 0, .int .i64 1]) ∧ Below w.heap.size w w' := by
  have A0 := hide_ (AB.at0 w 50 [.int .i64 c, .int .i64 k, .int .i64 i, .slice su n cu])
  have B0 := hide_ (below1 w (.cells #[.int .i64 c, .int .i64 k, .int .i64 i, .slice su n cu] 50))
  obtain ⟨x0, x1, x2, x3, -⟩ := A0.out.k4
  have B0s := hide_ (show w.heap.size + 1 ≤ (w.alloc (.cells #[.int .i64 c, .int .i64 k, .int .i64 i, .slice su n cu] 50)).heap.size by simp)
  have qr := fun W (hW : Below w.heap.size w W) => rgright_any c k i su n cu L W (hL.later hW) hF
  rw [h] at qr
  have qr := hide_ qr
  clear hL hF h
  go_enter Tryz.func26, Tryz.ntmps26
  go_wp2_with (go_at_call 28; refine (qr.out _ B0.out).mono ?_; rintro e w1 ⟨rfl, b1⟩; have k1 := hide_ (B0.out.trans (b1.mono B0.out.size)); have A1 := hide_ (A0.out.later b1); obtain ⟨y0, y1, y2, y3, -⟩ := A1.out.k4; have hs1 := hide_ (Nat.le_trans B0s.out b1.size); clear b1)
  go_ret2
  exact ⟨by first | rfl | simp, k1.out⟩

theorem keepG4 {w0 wa wb : World} {p0 p1 p2 p3 : Addr} {x0 x1 x2 x3 : Value} (k : Below wa.heap.size wa wb) (h : wa.cell? p0 = some x0 ∧ wa.cell? p1 = some x1 ∧ wa.cell? p2 = some x2 ∧ wa.cell? p3 = some x3 ∧ Below w0.heap.size w0 wa) : wb.cell? p0 = some x0 ∧ wb.cell? p1 = some x1 ∧ wb.cell? p2 = some x2 ∧ wb.cell? p3 = some x3 ∧ Below w0.heap.size w0 wb :=
  ⟨cell_later k h.1, cell_later k h.2.1, cell_later k h.2.2.1, cell_later k h.2.2.2.1, h.2.2.2.2.trans (k.mono h.2.2.2.2.size)⟩
theorem zero_isB : isB [0] := by intro z hz; simp at hz; omega
set_option maxRecDepth 100000 in
set_option maxHeartbeats 8000000 in
theorem rgenc_yes (c k i : Int) (su : Option Addr) (n cu : Nat) (L : List BK) (w : World) (hL : BuckAt w (.slice su n cu) L) (hF : BFit L) (h : gR c k i L = true) : Calls Tryz.prog 26 #[.agg #[.int .i64 c, .int .i64 k, .int .i64 i, .slice su n cu]] w fun e w' => (∃ r, e = .returned (.tuple #[r, .int .i64 0]) ∧ OwnB w' w.heap.size r (gE c k i L)) ∧ Below w.heap.size w w' := by
  have A0 := hide_ (AB.at0 w 50 [.int .i64 c, .int .i64 k, .int .i64 i, .slice su n cu])
  have B0 := hide_ (below1 w (.cells #[.int .i64 c, .int .i64 k, .int .i64 i, .slice su n cu] 50))
  obtain ⟨x0, x1, x2, x3, -⟩ := A0.out.k4
  have B0s := hide_ (show w.heap.size + 1 ≤ (w.alloc (.cells #[.int .i64 c, .int .i64 k, .int .i64 i, .slice su n cu] 50)).heap.size by simp)
  have qr := fun W (hW : Below w.heap.size w W) => rgright_any c k i su n cu L W (hL.later hW) hF
  rw [h] at qr
  have qr := hide_ qr
  obtain ⟨hc, hk, hi, hb⟩ := gR_parts h
  have hB6 := (gB_parts hb).2.2
  have qe := hide_ (rgben hL hF true hb)
  have r1 : rightB c 2 = true := by unfold cR at hc; simp [rightB, szB, lim] at hc ⊢; omega
  have r2 : rightB k 1 = true := by unfold kR at hk; simp [rightB, szB, lim] at hk ⊢; omega
  have q1 : Hid (∀ W, Calls Tryz.prog 36 #[.slice none 0 0, .int .i64 c, .int .i64 2] W fun e w' => ∃ r, e = .returned r ∧ OwnB w' W.heap.size r (p1F c) ∧ Below W.heap.size W w') := hide_ (fun W => rput_ownG (.slice none 0 0) [] c 2 W (Bytes.nil W) (by simp) r1 (spl_isB _ _ r1))
  have q2 : Hid (∀ (v : Value) W, Bytes W v (p1F c) → Calls Tryz.prog 36 #[v, .int .i64 k, .int .i64 1] W fun e w' => ∃ r, e = .returned r ∧ OwnB w' W.heap.size r (p2F c k) ∧ Below W.heap.size W w') := hide_ (fun v W h => rput_ownG v (p1F c) k 1 W h (by simp [p1F, spl_lenG]) r2 (spl_isB _ _ r2))
  have q4 : Hid (∀ (v : Value) W, Bytes W v (p3F c k) → Calls Tryz.prog 36 #[v, .int .i64 i, .int .i64 4] W fun e w' => ∃ r, e = .returned r ∧ OwnB w' W.heap.size r (p4F c k i) ∧ Below W.heap.size W w') := hide_ (fun v W h => rput_ownG v (p3F c k) i 4 W h (by simp [p3F, p2F, p1F, spl_lenG]) hi (spl_isB _ _ hi))
  have HE : Hid (gE c k i L = p4F c k i ++ encK L) := hide_ rfl
  generalize encK L = B at *
  have HB6 := hide_ hB6
  obtain ⟨i0, hi0, hz0, hz1, hz2⟩ := info_parts info5
  have HN : Hid (Tryz.prog.info? 5 = some i0 ∧ i0.zero = some (.int .u8 0) ∧ i0.size = 1 ∧ i0.bytes = 1) := ⟨hi0, hz0, hz1, hz2⟩
  clear hL hF h hc hk hi hb r1 r2 hi0 hz0 hz1 hz2 hB6
  simp only [if_true] at qe
  have hl2 : (p2F c k).length = 3 := by simp [p2F, p1F, spl_lenG]
  have hl4 : (p4F c k i).length = 8 := by simp [p4F, p3F, p2F, p1F, spl_lenG]
  go_enter Tryz.func26, Tryz.ntmps26
  go_upto_region 4 with (first | (go_at_call 28; refine (qr.out _ B0.out).mono ?_; rintro e w1 ⟨rfl, b1⟩; have k1 := hide_ (B0.out.trans (b1.mono B0.out.size)); have A1 := hide_ (A0.out.later b1); obtain ⟨y0, y1, y2, y3, -⟩ := A1.out.k4; have hs1 := hide_ (Nat.le_trans B0s.out b1.size); clear b1) | (go_at_call 61; refine (qe.out _ k1.out).mono ?_; rintro e w2 ⟨r, rfl, hO, b2⟩; obtain ⟨s2, c2, rfl⟩ := own_sliceB hO; have HO := hide_ (hO.mono hs1.out); have k2 := hide_ (k1.out.trans (b2.mono k1.out.size)); have A2 := hide_ (A1.out.later b2); obtain ⟨z0, z1, z2, z3, -⟩ := A2.out.k4; have hs2 := hide_ (Nat.le_trans hs1.out b2.size); clear hO b2))
  refine wp_region_held_drew (S := (fun w' => w'.cell? ⟨w.heap.size, 0, none⟩ = some (.int .i64 c) ∧ w'.cell? ⟨w.heap.size, 1, none⟩ = some (.int .i64 k) ∧ w'.cell? ⟨w.heap.size, 2, none⟩ = some (.int .i64 i) ∧ w'.cell? ⟨w.heap.size, 3, none⟩ = some (.slice su n cu) ∧ Below w.heap.size w w')) (by kernel_rfl) (⟨z0, z1, z2, z3, k2.out.drew⟩) (fun hHeld => ?_)
  have HOD := hide_ (HO.out.later ((Below.refl _ _).drew : Below w2.heap.size w2 w2.drew))
  have hsD := hide_ (show w.heap.size + 1 ≤ w2.drew.heap.size from hs2.out)
  generalize w2.drew = D at *
  refine takeR (i := 0) (v := ?_) rfl (by kernel_rfl) (by kernel_rfl) (by kernel_rfl) (some 16) rfl (Or.inl ⟨by rfl, ?_⟩) (fun _ _ _ h => h) (by assumption) ?_
  rotate_left
  · intro w hSw; (try dsimp only at hSw); go_simp; (try with_reducible rfl)
  simp only [Act.put, List.setIfInBounds_toArray, List.set_cons_zero, List.set_cons_succ]
  refine takeR (i := 1) (v := ?_) rfl (by kernel_rfl) (by kernel_rfl) (by kernel_rfl) (some 17) rfl (Or.inl ⟨by rfl, ?_⟩) (fun _ _ _ h => h) (by assumption) ?_
  rotate_left
  · intro w hSw; (try dsimp only at hSw); go_simp; (try with_reducible rfl)
  simp only [Act.put, List.setIfInBounds_toArray, List.set_cons_zero, List.set_cons_succ]
  refine takeR (i := 3) (v := ?_) rfl (by kernel_rfl) (by kernel_rfl) (by kernel_rfl) (some 19) rfl (Or.inl ⟨by rfl, ?_⟩) (fun _ _ _ h => h) (by assumption) ?_
  rotate_left
  · intro w hSw; (try dsimp only at hSw); go_simp; (try with_reducible rfl)
  simp only [Act.put, List.setIfInBounds_toArray, List.set_cons_zero, List.set_cons_succ]
  refine takeR (i := 4) (v := ?_) rfl (by kernel_rfl) (by kernel_rfl) (by kernel_rfl) (some 20) rfl (Or.inl ⟨by rfl, ?_⟩) (fun _ _ _ h => h) (by assumption) ?_
  rotate_left
  · intro w hSw; (try dsimp only at hSw); go_simp; (try with_reducible rfl)
  simp only [Act.put, List.setIfInBounds_toArray, List.set_cons_zero, List.set_cons_succ]
  refine wpAnyH_ready (rs := [2]) (by kernel_rfl) (by simp) ?_
  refine AllReadyH.cons rfl (fun K hK => ?_) (AllReadyH.nil)
  go_simp
  refine (q1.out _).mono ?_
  rintro e w3 ⟨r3, rfl, o3, b3⟩
  have H3 := hide_ (o3.mono (Nat.le_refl _))
  have bD3 := hide_ b3
  refine hK.out _ _ (keepG4 b3 hHeld) (fun hHeld => ?_)
  clear hK K
  try simp only [Act.put, List.setIfInBounds_toArray, List.set_cons_zero, List.set_cons_succ]
  refine wpAnyH_ready (rs := [5]) (by kernel_rfl) (by simp) ?_
  refine AllReadyH.cons rfl (fun K hK => ?_) (AllReadyH.nil)
  go_simp
  refine (q2.out _ _ H3.out.bytes).mono ?_
  rintro e w4 ⟨r4, rfl, o4, b4⟩
  have H4 := hide_ (o4.mono bD3.out.size)
  have bD4 := hide_ (bD3.out.trans (b4.mono bD3.out.size))
  refine hK.out _ _ (keepG4 b4 hHeld) (fun hHeld => ?_)
  clear hK K
  try simp only [Act.put, List.setIfInBounds_toArray, List.set_cons_zero, List.set_cons_succ]
  refine takeR (i := 6) (v := ?_) rfl (by kernel_rfl) (by kernel_rfl) (by kernel_rfl) (some 6) rfl (Or.inl ⟨by rfl, ?_⟩) (fun _ _ _ h => h) (by assumption) ?_
  rotate_left
  · intro w hSw; (try dsimp only at hSw); go_simp; (try with_reducible rfl)
  simp only [Act.put, List.setIfInBounds_toArray, List.set_cons_zero, List.set_cons_succ]
  refine wpAnyH_done (by kernel_rfl) ?_ _
  go_upto_region 5 with fail
  refine wp_region_held_drew (S := (fun w' => w'.cell? ⟨w.heap.size, 0, none⟩ = some (.int .i64 c) ∧ w'.cell? ⟨w.heap.size, 1, none⟩ = some (.int .i64 k) ∧ w'.cell? ⟨w.heap.size, 2, none⟩ = some (.int .i64 i) ∧ w'.cell? ⟨w.heap.size, 3, none⟩ = some (.slice su n cu) ∧ Below w.heap.size w w')) (by kernel_rfl) (keepG4 ((Below.refl _ _).drew : Below w4.heap.size w4 w4.drew) hHeld) (fun hHeld => ?_)
  have HE4 := hide_ (H4.out.later ((Below.refl _ _).drew : Below w4.heap.size w4 w4.drew))
  have bDE := hide_ (bD4.out.trans (((Below.refl _ _).drew : Below w4.heap.size w4 w4.drew).mono bD4.out.size))
  generalize w4.drew = E at *
  refine takeR (i := 0) (v := ?_) rfl (by kernel_rfl) (by kernel_rfl) (by kernel_rfl) (some 22) rfl (Or.inl ⟨by rfl, ?_⟩) (fun _ _ _ h => h) (by assumption) ?_
  rotate_left
  · intro w hSw; (try dsimp only at hSw); go_simp; (try with_reducible rfl)
  simp only [Act.put, List.setIfInBounds_toArray, List.set_cons_zero, List.set_cons_succ]
  refine takeR (i := 3) (v := ?_) rfl (by kernel_rfl) (by kernel_rfl) (by kernel_rfl) (some 25) rfl (Or.inl ⟨by rfl, ?_⟩) (fun _ _ _ h => h) (by assumption) ?_
  rotate_left
  · intro w hSw; (try dsimp only at hSw); go_simp; (try with_reducible rfl)
  simp only [Act.put, List.setIfInBounds_toArray, List.set_cons_zero, List.set_cons_succ]
  refine takeR (i := 4) (v := ?_) rfl (by kernel_rfl) (by kernel_rfl) (by kernel_rfl) (some 26) rfl (Or.inl ⟨by rfl, ?_⟩) (fun _ _ _ h => h) (by assumption) ?_
  rotate_left
  · intro w hSw; (try dsimp only at hSw); go_simp; (try with_reducible rfl)
  simp only [Act.put, List.setIfInBounds_toArray, List.set_cons_zero, List.set_cons_succ]
  refine takeR (i := 6) (v := ?_) rfl (by kernel_rfl) (by kernel_rfl) (by kernel_rfl) (some 28) rfl (Or.inl ⟨by rfl, ?_⟩) (fun _ _ _ h => h) (by assumption) ?_
  rotate_left
  · intro w hSw; (try dsimp only at hSw); go_simp; (try with_reducible rfl)
  simp only [Act.put, List.setIfInBounds_toArray, List.set_cons_zero, List.set_cons_succ]
  refine wpAnyH_ready (rs := [1]) (by kernel_rfl) (by simp) ?_
  refine AllReadyH.cons rfl (fun K hK => ?_) (AllReadyH.nil)
  go_simp
  have H5 := hide_ (HE4.out.later (below1 E (.cells #[.int .u8 0] 5)))
  have bD5 := hide_ (bDE.out.trans ((below1 E (.cells #[.int .u8 0] 5)).mono bDE.out.size))
  refine hK.out _ _ (keepG4 (below1 E (.cells #[.int .u8 0] 5)) hHeld) (fun hHeld => ?_)
  clear hK K
  try simp only [Act.put, List.setIfInBounds_toArray, List.set_cons_zero, List.set_cons_succ]
  refine wpAnyH_ready (rs := [2]) (by kernel_rfl) (by simp) ?_
  refine AllReadyH.cons rfl (fun K hK => ?_) (AllReadyH.nil)
  refine step_append_ownB rfl (.tmp 22) (.tmp 23) 25 rfl D.heap.size 5 i0 Tryz.underlying25 HN.out.1 HN.out.2.1 HN.out.2.2.1 HN.out.2.2.2 r4 (p2F c k).length (u8s (p2F c k)) (by first | rfl | simp [Act.eval, Act.put]) H5.out.1 (.slice (some ⟨E.heap.size, 0, none⟩) 1 1) [0] (by first | rfl | simp [Act.eval, Act.put]) (Bytes.lit E [0] 5 zero_isB (by decide)) (by rw [hl2]; decide) bD5.out.size ?_
  intro v6 w6 own6 hg6
  have b6 := H5.out.growB hg6 (Nat.le_refl _) bD5.out.size
  have H6 : Hid (OwnB w6 D.heap.size v6 (p3F c k)) := hide_ (H5.out.grow zero_isB own6)
  have bD6 := hide_ (bD5.out.trans b6)
  refine hK.out _ _ (keepB4 (b6.mono hsD.out) hHeld (by omega)) (fun hHeld => ?_)
  clear hK K
  try simp only [Act.put, List.setIfInBounds_toArray, List.set_cons_zero, List.set_cons_succ]
  refine wpAnyH_ready (rs := [5]) (by kernel_rfl) (by simp) ?_
  refine AllReadyH.cons rfl (fun K hK => ?_) (AllReadyH.nil)
  go_simp
  refine (q4.out _ _ H6.out.bytes).mono ?_
  rintro e w7 ⟨r7, rfl, o7, b7⟩
  have H7 := hide_ (o7.mono bD6.out.size)
  have bD7 := hide_ (bD6.out.trans (b7.mono bD6.out.size))
  refine hK.out _ _ (keepG4 b7 hHeld) (fun hHeld => ?_)
  clear hK K
  try simp only [Act.put, List.setIfInBounds_toArray, List.set_cons_zero, List.set_cons_succ]
  refine wpAnyH_ready (rs := [7]) (by kernel_rfl) (by simp) ?_
  refine AllReadyH.cons rfl (fun K hK => ?_) (AllReadyH.nil)
  refine step_append_ownB rfl (.tmp 27) (.tmp 28) 25 rfl D.heap.size 5 i0 Tryz.underlying25 HN.out.1 HN.out.2.1 HN.out.2.2.1 HN.out.2.2.2 r7 (p4F c k i).length (u8s (p4F c k i)) (by first | rfl | simp [Act.eval, Act.put]) H7.out.1 (.slice s2 B.length c2) B (by first | rfl | simp [Act.eval, Act.put]) (HOD.out.later bD7.out).bytes (by rw [hl4]; have := HB6.out; omega) bD7.out.size ?_
  intro v8 w8 own8 hg8
  have b8 := H7.out.growB hg8 (Nat.le_refl _) bD7.out.size
  have H8 : Hid (OwnB w8 D.heap.size v8 (p4F c k i ++ B)) := hide_ (H7.out.grow HO.out.2 own8)
  refine hK.out _ _ (keepB4 (b8.mono hsD.out) hHeld (by omega)) (fun hHeld => ?_)
  clear hK K
  try simp only [Act.put, List.setIfInBounds_toArray, List.set_cons_zero, List.set_cons_succ]
  refine takeR (i := 8) (v := ?_) rfl (by kernel_rfl) (by kernel_rfl) (by kernel_rfl) (some 2) rfl (Or.inl ⟨by rfl, ?_⟩) (fun _ _ _ h => h) (by assumption) ?_
  rotate_left
  · intro w hSw; (try dsimp only at hSw); go_simp; (try with_reducible rfl)
  simp only [Act.put, List.setIfInBounds_toArray, List.set_cons_zero, List.set_cons_succ]
  refine takeR (i := 9) (v := ?_) rfl (by kernel_rfl) (by kernel_rfl) (by kernel_rfl) (some 3) rfl (Or.inl ⟨by rfl, ?_⟩) (fun _ _ _ h => h) (by assumption) ?_
  rotate_left
  · intro w hSw; (try dsimp only at hSw); go_simp; (try with_reducible rfl)
  simp only [Act.put, List.setIfInBounds_toArray, List.set_cons_zero, List.set_cons_succ]
  refine wpAnyH_done (by kernel_rfl) ?_ _
  go_wp2_with fail
  go_ret2
  exact ⟨⟨v8, by first | rfl | simp, by rw [HE.out]; exact H8.out.mono (by have := hsD.out; omega)⟩, hHeld.2.2.2.2⟩

end Go.Proofs.YthhijfphfcmniaaGreat

namespace Go.Proofs.YthhijfphfcmniaaGreat
open Go Go.RowKit
set_option linter.unusedVariables false
set_option linter.unusedSimpArgs false

set_option maxRecDepth 100000 in
set_option maxHeartbeats 8000000 in
theorem rgsame_any (c k i : Int) (su : Option Addr) (n cu : Nat) (L : List BK) (c2 k2 i2 : Int) (su2 : Option Addr) (n2 cu2 : Nat) (K : List BK) (w : World) (hL : BuckAt w (.slice su n cu) L) (hK : BuckAt w (.slice su2 n2 cu2) K) :
    Calls Tryz.prog 30 #[.agg #[.int .i64 c, .int .i64 k, .int .i64 i, .slice su n cu], .agg #[.int .i64 c2, .int .i64 k2, .int .i64 i2, .slice su2 n2 cu2]] w fun e w' => e = .returned (.bool (sameG c k i L c2 k2 i2 K)) ∧ Below w.heap.size w w' := by
  have q := hide_ (fun W (hW : Below w.heap.size w W) => rblsame_any _ _ L K W (hL.later hW) (hK.later hW))
  have B0 := hide_ (below2 w (.cells #[.int .i64 c, .int .i64 k, .int .i64 i, .slice su n cu] 50) (.cells #[.int .i64 c2, .int .i64 k2, .int .i64 i2, .slice su2 n2 cu2] 50))
  obtain ⟨o0, o1, o2, o3, -⟩ := ((AB.at0 w 50 [.int .i64 c, .int .i64 k, .int .i64 i, .slice su n cu]).alloc (.cells #[.int .i64 c2, .int .i64 k2, .int .i64 i2, .slice su2 n2 cu2] 50)).k4
  obtain ⟨o4, o5, o6, o7, -⟩ := (AB.at1 w (.cells #[.int .i64 c, .int .i64 k, .int .i64 i, .slice su n cu] 50) 50 [.int .i64 c2, .int .i64 k2, .int .i64 i2, .slice su2 n2 cu2]).k4
  clear hL hK
  unfold sameG
  by_cases h1 : c = c2
  · subst h1
    by_cases h2 : k = k2
    · subst h2
      by_cases h3 : i = i2
      · subst h3
        have e1 : (decide (c = c) && (decide (k = k) && (decide ((0 : Int) = 0) && decide (i = i)))) = true := by simp
        rw [e1, Bool.true_and]
        clear e1
        generalize sameBL L K = z at *
        go_enter Tryz.func30, Tryz.ntmps30
        go_wp2_with (go_at_call 65; refine (q.out _ B0.out).mono ?_; rintro e w4 ⟨rfl, b4⟩; have B4 := hide_ (B0.out.trans (b4.mono B0.out.size)); clear b4)
        go_ret
        exact ⟨by first | rfl | simp, B4.out⟩
      · have e1 : (decide (c = c) && (decide (k = k) && (decide ((0 : Int) = 0) && decide (i = i2)))) = false := by simp [h3]
        rw [e1, Bool.false_and]
        clear e1
        go_enter Tryz.func30, Tryz.ntmps30
        go_wp2_with (go_at_call 65; refine (q.out _ B0.out).mono ?_; rintro e w4 ⟨rfl, b4⟩; have B4 := hide_ (B0.out.trans (b4.mono B0.out.size)); clear b4)
        go_ret
        exact ⟨by first | rfl | simp, B0.out⟩
    · have e1 : (decide (c = c) && (decide (k = k2) && (decide ((0 : Int) = 0) && decide (i = i2)))) = false := by simp [h2]
      rw [e1, Bool.false_and]
      clear e1
      go_enter Tryz.func30, Tryz.ntmps30
      go_wp2_with (go_at_call 65; refine (q.out _ B0.out).mono ?_; rintro e w4 ⟨rfl, b4⟩; have B4 := hide_ (B0.out.trans (b4.mono B0.out.size)); clear b4)
      go_ret
      exact ⟨by first | rfl | simp, B0.out⟩
  · have e1 : (decide (c = c2) && (decide (k = k2) && (decide ((0 : Int) = 0) && decide (i = i2)))) = false := by simp [h1]
    rw [e1, Bool.false_and]
    clear e1
    go_enter Tryz.func30, Tryz.ntmps30
    go_wp2_with (go_at_call 65; refine (q.out _ B0.out).mono ?_; rintro e w4 ⟨rfl, b4⟩; have B4 := hide_ (B0.out.trans (b4.mono B0.out.size)); clear b4)
    go_ret
    exact ⟨by first | rfl | simp, B0.out⟩

end Go.Proofs.YthhijfphfcmniaaGreat

