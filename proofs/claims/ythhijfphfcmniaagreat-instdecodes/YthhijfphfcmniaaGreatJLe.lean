import Derived.Test.YthhijfphfcmniaaGreatOfe
import Derived.Test.YthhijfphfcmniaaGreatOge
import Derived.Test.YthhijfphfcmniaaGreatAke
import Derived.Test.YthhijfphfcmniaaGreatAhe
import Derived.Test.YthhijfphfcmniaaGreatXhe
import Derived.Test.YthhijfphfcmniaaGreatJAe
import Derived.Test.YthhijfphfcmniaaGreatAfe
import Derived.Deep.RegionHeld3
import Derived.Deep.RegionWith
import Derived.Deep.MidRow
import Derived.Deep.Cut
set_option maxRecDepth 100000
set_option maxHeartbeats 8000000
set_option linter.unusedVariables false
set_option linter.unusedSimpArgs false
namespace Go.Proofs.YthhijfphfcmniaaGreat
section
open Go Go.RowKit
theorem OwnB.lit {w w' : World} {base n : Nat} {v v' : Value} {l m : List Int} (h : OwnB w base v l) (hm : isB m) (hn : l.length = n) (ho : w'.ownsRow base 5 1 v' (n + m.length) (u8s l ++ u8s m)) : OwnB w' base v' (l ++ m) := by
  subst hn
  exact h.grow hm ho
theorem OwnB.isB_ {w : World} {base : Nat} {v : Value} {l : List Int} (h : OwnB w base v l) : isB l := h.2
theorem rlsame_any (v u : Value) (L K : List A11) (w : World) (hL : ActAt w v L) (hK : ActAt w u K) :
    Calls Tryz.prog 76 #[v, u] w fun e w' => e = .returned (.bool (sameL L K)) ∧ Below w.heap.size w w' := by
  obtain ⟨s, cap, rfl, h1, h2, h3, h4⟩ := hL
  obtain ⟨s2, cap2, rfl, k1, k2, k3, k4⟩ := hK
  have HL := h_ h4
  have HK := h_ k4
  have hm : L.length ≤ 9223372036854775807 := by unfold maxLen at h2; omega
  have hm2 : K.length ≤ 9223372036854775807 := by unfold maxLen at k2; omega
  clear h1 h2 h3 h4 k1 k2 k3 k4
  by_cases hlen : L.length = K.length
  · have HE := h_ hlen
    rw [← hlen]
    have g0 : ((L.length : Int) != (L.length : Int)) = false := by simp
    clear hlen hm2
    obtain ⟨R, hR⟩ : ∃ R, sameL L K = R := ⟨_, rfl⟩
    rw [hR]
    have HR := h_ hR
    clear hR
    go_enter Tryz.func76, Tryz.ntmps76
    go_wp2
    go_loopw [5] (fun i wr => ∃ k : Nat, k ≤ L.length ∧ i = .int .i64 k ∧ Hid (L.take k = K.take k) ∧ Below w.heap.size w wr) (fun i _ => L.length - (intOf i).toNat)
    case atStart => exact ⟨0, Nat.zero_le _, rfl, h_ rfl, Below.refl _ _⟩
    case round =>
      obtain ⟨j, hk, rfl, HT, hb⟩ := hrel
      by_cases hlt : j < L.length
      · have hlt2 : j < K.length := by have := HE.out; omega
        obtain ⟨⟨k1, p1, x1, q1, y1, f1, m1, a1, b1, c1, d1⟩, hz1⟩ : ∃ z, L[j]? = some z := ⟨_, List.getElem?_eq_getElem hlt⟩
        obtain ⟨bq, off, rfl, X0, X1, X2, X3, X4, X5, X6, X7, X8, X9, X10⟩ := act11 HL.out hz1
        have X0 := cell_later hb X0
        have X1 := cell_later hb X1
        have X2 := cell_later hb X2
        have X3 := cell_later hb X3
        have X4 := cell_later hb X4
        have X5 := cell_later hb X5
        have X6 := cell_later hb X6
        have X7 := cell_later hb X7
        have X8 := cell_later hb X8
        have X9 := cell_later hb X9
        have X10 := cell_later hb X10
        obtain ⟨⟨k2, p2, x2, q2, y2, f2, m2, a2, b2, c2, d2⟩, hz2⟩ : ∃ z, K[j]? = some z := ⟨_, List.getElem?_eq_getElem hlt2⟩
        obtain ⟨q2', off2, rfl, Y0, Y1, Y2, Y3, Y4, Y5, Y6, Y7, Y8, Y9, Y10⟩ := act11 HK.out hz2
        have Y0 := cell_later hb Y0
        have Y1 := cell_later hb Y1
        have Y2 := cell_later hb Y2
        have Y3 := cell_later hb Y3
        have Y4 := cell_later hb Y4
        have Y5 := cell_later hb Y5
        have Y6 := cell_later hb Y6
        have Y7 := cell_later hb Y7
        have Y8 := cell_later hb Y8
        have Y9 := cell_later hb Y9
        have Y10 := cell_later hb Y10
        have HX := h_ hz1
        have HY := h_ hz2
        clear hz1 hz2 hlt2
        have hlt' : (j : Int) < (L.length : Int) := by omega
        have qs := fun w => rasame_any k1 p1 x1 q1 y1 f1 m1 a1 b1 c1 d1 k2 p2 x2 q2 y2 f2 m2 a2 b2 c2 d2 w
        have qs := h_ qs
        unfold av at qs
        cases hd : sameB k1 p1 x1 q1 y1 f1 m1 a1 b1 c1 d1 k2 p2 x2 q2 y2 f2 m2 a2 b2 c2 d2
        · rw [hd] at qs
          have HD := h_ (sameB_false _ _ _ _ _ _ _ _ _ _ _ _ _ _ _ _ _ _ _ _ _ _ hd)
          clear hd
          go_wp2_with fail
          refine wp_region_held_drew (S := (fun w' => w'.cell? ⟨bq, off + j * 11, none⟩ = some (.int .i64 k1) ∧ w'.cell? ⟨bq, off + j * 11 + 1, none⟩ = some (.int .i64 p1) ∧ w'.cell? ⟨bq, off + j * 11 + 2, none⟩ = some (.int .i64 x1) ∧ w'.cell? ⟨bq, off + j * 11 + 3, none⟩ = some (.int .i64 q1) ∧ w'.cell? ⟨bq, off + j * 11 + 4, none⟩ = some (.int .i64 y1) ∧ w'.cell? ⟨bq, off + j * 11 + 5, none⟩ = some (.int .i64 f1) ∧ w'.cell? ⟨bq, off + j * 11 + 6, none⟩ = some (.bool m1) ∧ w'.cell? ⟨bq, off + j * 11 + 7, none⟩ = some (.int .u64 (a1 : Int)) ∧ w'.cell? ⟨bq, off + j * 11 + 8, none⟩ = some (.int .u64 (b1 : Int)) ∧ w'.cell? ⟨bq, off + j * 11 + 9, none⟩ = some (.int .u64 (c1 : Int)) ∧ w'.cell? ⟨bq, off + j * 11 + 10, none⟩ = some (.int .u64 (d1 : Int)) ∧ w'.cell? ⟨q2', off2 + j * 11, none⟩ = some (.int .i64 k2) ∧ w'.cell? ⟨q2', off2 + j * 11 + 1, none⟩ = some (.int .i64 p2) ∧ w'.cell? ⟨q2', off2 + j * 11 + 2, none⟩ = some (.int .i64 x2) ∧ w'.cell? ⟨q2', off2 + j * 11 + 3, none⟩ = some (.int .i64 q2) ∧ w'.cell? ⟨q2', off2 + j * 11 + 4, none⟩ = some (.int .i64 y2) ∧ w'.cell? ⟨q2', off2 + j * 11 + 5, none⟩ = some (.int .i64 f2) ∧ w'.cell? ⟨q2', off2 + j * 11 + 6, none⟩ = some (.bool m2) ∧ w'.cell? ⟨q2', off2 + j * 11 + 7, none⟩ = some (.int .u64 (a2 : Int)) ∧ w'.cell? ⟨q2', off2 + j * 11 + 8, none⟩ = some (.int .u64 (b2 : Int)) ∧ w'.cell? ⟨q2', off2 + j * 11 + 9, none⟩ = some (.int .u64 (c2 : Int)) ∧ w'.cell? ⟨q2', off2 + j * 11 + 10, none⟩ = some (.int .u64 (d2 : Int)) ∧ Below w.heap.size w w')) (by kernel_rfl) (⟨X0, X1, X2, X3, X4, X5, X6, X7, X8, X9, X10, Y0, Y1, Y2, Y3, Y4, Y5, Y6, Y7, Y8, Y9, Y10, hb.drew⟩) (fun hHeld => ?_)
          refine tR 0 ?_ (some 17) rfl (by kernel_rfl) rfl (by rfl) ?_ (fun _ _ _ h => h) (by assumption) ?_
          rotate_left
          · intro w hSw; (try dsimp only at hSw); go_simp; (try with_reducible rfl)
          simp only [Act.put, sIb, sCz, sCs]
          refine tR 1 ?_ (some 18) rfl (by kernel_rfl) rfl (by rfl) ?_ (fun _ _ _ h => h) (by assumption) ?_
          rotate_left
          · intro w hSw; (try dsimp only at hSw); go_simp; (try with_reducible rfl)
          simp only [Act.put, sIb, sCz, sCs]
          refine tR 2 ?_ (some 19) rfl (by kernel_rfl) rfl (by rfl) ?_ (fun _ _ _ h => h) (by assumption) ?_
          rotate_left
          · intro w hSw; (try dsimp only at hSw); go_simp; (try with_reducible rfl)
          simp only [Act.put, sIb, sCz, sCs]
          refine tR 3 ?_ (some 20) rfl (by kernel_rfl) rfl (by rfl) ?_ (fun _ _ _ h => h) (by assumption) ?_
          rotate_left
          · intro w hSw; (try dsimp only at hSw); go_simp; (try with_reducible rfl)
          simp only [Act.put, sIb, sCz, sCs]
          refine tR 4 ?_ (some 21) rfl (by kernel_rfl) rfl (by rfl) ?_ (fun _ _ _ h => h) (by assumption) ?_
          rotate_left
          · intro w hSw; (try dsimp only at hSw); go_simp; (try with_reducible rfl)
          simp only [Act.put, sIb, sCz, sCs]
          refine tR 5 ?_ (some 22) rfl (by kernel_rfl) rfl (by rfl) ?_ (fun _ _ _ h => h) (by assumption) ?_
          rotate_left
          · intro w hSw; (try dsimp only at hSw); go_simp; (try with_reducible rfl)
          simp only [Act.put, sIb, sCz, sCs]
          refine tR 6 ?_ (some 23) rfl (by kernel_rfl) rfl (by rfl) ?_ (fun _ _ _ h => h) (by assumption) ?_
          rotate_left
          · intro w hSw; (try dsimp only at hSw); go_simp; (try with_reducible rfl)
          simp only [Act.put, sIb, sCz, sCs]
          refine tR 7 ?_ (some 24) rfl (by kernel_rfl) rfl (by rfl) ?_ (fun _ _ _ h => h) (by assumption) ?_
          rotate_left
          · intro w hSw; (try dsimp only at hSw); go_simp; (try with_reducible rfl)
          simp only [Act.put, sIb, sCz, sCs]
          refine wpAnyH_ready (rs := [8]) (by kernel_rfl) (by simp) ?_
          refine AllReadyH.cons rfl (fun K hK => ?_) (AllReadyH.nil)
          go_simp
          refine (qs.out _).mono ?_
          rintro e w5 ⟨rfl, b5⟩
          refine hK.out _ _ (⟨cell_later b5 hHeld.1, cell_later b5 hHeld.2.1, cell_later b5 hHeld.2.2.1, cell_later b5 hHeld.2.2.2.1, cell_later b5 hHeld.2.2.2.2.1, cell_later b5 hHeld.2.2.2.2.2.1, cell_later b5 hHeld.2.2.2.2.2.2.1, cell_later b5 hHeld.2.2.2.2.2.2.2.1, cell_later b5 hHeld.2.2.2.2.2.2.2.2.1, cell_later b5 hHeld.2.2.2.2.2.2.2.2.2.1, cell_later b5 hHeld.2.2.2.2.2.2.2.2.2.2.1, cell_later b5 hHeld.2.2.2.2.2.2.2.2.2.2.2.1, cell_later b5 hHeld.2.2.2.2.2.2.2.2.2.2.2.2.1, cell_later b5 hHeld.2.2.2.2.2.2.2.2.2.2.2.2.2.1, cell_later b5 hHeld.2.2.2.2.2.2.2.2.2.2.2.2.2.2.1, cell_later b5 hHeld.2.2.2.2.2.2.2.2.2.2.2.2.2.2.2.1, cell_later b5 hHeld.2.2.2.2.2.2.2.2.2.2.2.2.2.2.2.2.1, cell_later b5 hHeld.2.2.2.2.2.2.2.2.2.2.2.2.2.2.2.2.2.1, cell_later b5 hHeld.2.2.2.2.2.2.2.2.2.2.2.2.2.2.2.2.2.2.1, cell_later b5 hHeld.2.2.2.2.2.2.2.2.2.2.2.2.2.2.2.2.2.2.2.1, cell_later b5 hHeld.2.2.2.2.2.2.2.2.2.2.2.2.2.2.2.2.2.2.2.2.1, cell_later b5 hHeld.2.2.2.2.2.2.2.2.2.2.2.2.2.2.2.2.2.2.2.2.2.1, hHeld.2.2.2.2.2.2.2.2.2.2.2.2.2.2.2.2.2.2.2.2.2.2.trans (b5.mono hHeld.2.2.2.2.2.2.2.2.2.2.2.2.2.2.2.2.2.2.2.2.2.2.size)⟩) (fun hHeld => ?_)
          clear hK K
          try simp only [Act.put, sIb, sCz, sCs]
          refine tR 9 ?_ (some 26) rfl (by kernel_rfl) rfl (by rfl) ?_ (fun _ _ _ h => h) (by assumption) ?_
          rotate_left
          · intro w hSw; (try dsimp only at hSw); go_simp; (try with_reducible rfl)
          simp only [Act.put, sIb, sCz, sCs]
          refine wpAnyH_done (by kernel_rfl) ?_ _
          go_wp2
          go_ret
          refine ⟨?_, hHeld.2.2.2.2.2.2.2.2.2.2.2.2.2.2.2.2.2.2.2.2.2.2⟩
          rw [← HR.out, sameL_false (take_diffA HX.out HY.out HD.out)]
          rfl
        · rw [hd] at qs
          have HD := h_ (sameB_true _ _ _ _ _ _ _ _ _ _ _ _ _ _ _ _ _ _ _ _ _ _ hd)
          clear hd
          go_wp2_with fail
          refine wp_region_held_drew (S := (fun w' => w'.cell? ⟨bq, off + j * 11, none⟩ = some (.int .i64 k1) ∧ w'.cell? ⟨bq, off + j * 11 + 1, none⟩ = some (.int .i64 p1) ∧ w'.cell? ⟨bq, off + j * 11 + 2, none⟩ = some (.int .i64 x1) ∧ w'.cell? ⟨bq, off + j * 11 + 3, none⟩ = some (.int .i64 q1) ∧ w'.cell? ⟨bq, off + j * 11 + 4, none⟩ = some (.int .i64 y1) ∧ w'.cell? ⟨bq, off + j * 11 + 5, none⟩ = some (.int .i64 f1) ∧ w'.cell? ⟨bq, off + j * 11 + 6, none⟩ = some (.bool m1) ∧ w'.cell? ⟨bq, off + j * 11 + 7, none⟩ = some (.int .u64 (a1 : Int)) ∧ w'.cell? ⟨bq, off + j * 11 + 8, none⟩ = some (.int .u64 (b1 : Int)) ∧ w'.cell? ⟨bq, off + j * 11 + 9, none⟩ = some (.int .u64 (c1 : Int)) ∧ w'.cell? ⟨bq, off + j * 11 + 10, none⟩ = some (.int .u64 (d1 : Int)) ∧ w'.cell? ⟨q2', off2 + j * 11, none⟩ = some (.int .i64 k2) ∧ w'.cell? ⟨q2', off2 + j * 11 + 1, none⟩ = some (.int .i64 p2) ∧ w'.cell? ⟨q2', off2 + j * 11 + 2, none⟩ = some (.int .i64 x2) ∧ w'.cell? ⟨q2', off2 + j * 11 + 3, none⟩ = some (.int .i64 q2) ∧ w'.cell? ⟨q2', off2 + j * 11 + 4, none⟩ = some (.int .i64 y2) ∧ w'.cell? ⟨q2', off2 + j * 11 + 5, none⟩ = some (.int .i64 f2) ∧ w'.cell? ⟨q2', off2 + j * 11 + 6, none⟩ = some (.bool m2) ∧ w'.cell? ⟨q2', off2 + j * 11 + 7, none⟩ = some (.int .u64 (a2 : Int)) ∧ w'.cell? ⟨q2', off2 + j * 11 + 8, none⟩ = some (.int .u64 (b2 : Int)) ∧ w'.cell? ⟨q2', off2 + j * 11 + 9, none⟩ = some (.int .u64 (c2 : Int)) ∧ w'.cell? ⟨q2', off2 + j * 11 + 10, none⟩ = some (.int .u64 (d2 : Int)) ∧ Below w.heap.size w w')) (by kernel_rfl) (⟨X0, X1, X2, X3, X4, X5, X6, X7, X8, X9, X10, Y0, Y1, Y2, Y3, Y4, Y5, Y6, Y7, Y8, Y9, Y10, hb.drew⟩) (fun hHeld => ?_)
          refine tR 0 ?_ (some 17) rfl (by kernel_rfl) rfl (by rfl) ?_ (fun _ _ _ h => h) (by assumption) ?_
          rotate_left
          · intro w hSw; (try dsimp only at hSw); go_simp; (try with_reducible rfl)
          simp only [Act.put, sIb, sCz, sCs]
          refine tR 1 ?_ (some 18) rfl (by kernel_rfl) rfl (by rfl) ?_ (fun _ _ _ h => h) (by assumption) ?_
          rotate_left
          · intro w hSw; (try dsimp only at hSw); go_simp; (try with_reducible rfl)
          simp only [Act.put, sIb, sCz, sCs]
          refine tR 2 ?_ (some 19) rfl (by kernel_rfl) rfl (by rfl) ?_ (fun _ _ _ h => h) (by assumption) ?_
          rotate_left
          · intro w hSw; (try dsimp only at hSw); go_simp; (try with_reducible rfl)
          simp only [Act.put, sIb, sCz, sCs]
          refine tR 3 ?_ (some 20) rfl (by kernel_rfl) rfl (by rfl) ?_ (fun _ _ _ h => h) (by assumption) ?_
          rotate_left
          · intro w hSw; (try dsimp only at hSw); go_simp; (try with_reducible rfl)
          simp only [Act.put, sIb, sCz, sCs]
          refine tR 4 ?_ (some 21) rfl (by kernel_rfl) rfl (by rfl) ?_ (fun _ _ _ h => h) (by assumption) ?_
          rotate_left
          · intro w hSw; (try dsimp only at hSw); go_simp; (try with_reducible rfl)
          simp only [Act.put, sIb, sCz, sCs]
          refine tR 5 ?_ (some 22) rfl (by kernel_rfl) rfl (by rfl) ?_ (fun _ _ _ h => h) (by assumption) ?_
          rotate_left
          · intro w hSw; (try dsimp only at hSw); go_simp; (try with_reducible rfl)
          simp only [Act.put, sIb, sCz, sCs]
          refine tR 6 ?_ (some 23) rfl (by kernel_rfl) rfl (by rfl) ?_ (fun _ _ _ h => h) (by assumption) ?_
          rotate_left
          · intro w hSw; (try dsimp only at hSw); go_simp; (try with_reducible rfl)
          simp only [Act.put, sIb, sCz, sCs]
          refine tR 7 ?_ (some 24) rfl (by kernel_rfl) rfl (by rfl) ?_ (fun _ _ _ h => h) (by assumption) ?_
          rotate_left
          · intro w hSw; (try dsimp only at hSw); go_simp; (try with_reducible rfl)
          simp only [Act.put, sIb, sCz, sCs]
          refine wpAnyH_ready (rs := [8]) (by kernel_rfl) (by simp) ?_
          refine AllReadyH.cons rfl (fun K hK => ?_) (AllReadyH.nil)
          go_simp
          refine (qs.out _).mono ?_
          rintro e w5 ⟨rfl, b5⟩
          refine hK.out _ _ (⟨cell_later b5 hHeld.1, cell_later b5 hHeld.2.1, cell_later b5 hHeld.2.2.1, cell_later b5 hHeld.2.2.2.1, cell_later b5 hHeld.2.2.2.2.1, cell_later b5 hHeld.2.2.2.2.2.1, cell_later b5 hHeld.2.2.2.2.2.2.1, cell_later b5 hHeld.2.2.2.2.2.2.2.1, cell_later b5 hHeld.2.2.2.2.2.2.2.2.1, cell_later b5 hHeld.2.2.2.2.2.2.2.2.2.1, cell_later b5 hHeld.2.2.2.2.2.2.2.2.2.2.1, cell_later b5 hHeld.2.2.2.2.2.2.2.2.2.2.2.1, cell_later b5 hHeld.2.2.2.2.2.2.2.2.2.2.2.2.1, cell_later b5 hHeld.2.2.2.2.2.2.2.2.2.2.2.2.2.1, cell_later b5 hHeld.2.2.2.2.2.2.2.2.2.2.2.2.2.2.1, cell_later b5 hHeld.2.2.2.2.2.2.2.2.2.2.2.2.2.2.2.1, cell_later b5 hHeld.2.2.2.2.2.2.2.2.2.2.2.2.2.2.2.2.1, cell_later b5 hHeld.2.2.2.2.2.2.2.2.2.2.2.2.2.2.2.2.2.1, cell_later b5 hHeld.2.2.2.2.2.2.2.2.2.2.2.2.2.2.2.2.2.2.1, cell_later b5 hHeld.2.2.2.2.2.2.2.2.2.2.2.2.2.2.2.2.2.2.2.1, cell_later b5 hHeld.2.2.2.2.2.2.2.2.2.2.2.2.2.2.2.2.2.2.2.2.1, cell_later b5 hHeld.2.2.2.2.2.2.2.2.2.2.2.2.2.2.2.2.2.2.2.2.2.1, hHeld.2.2.2.2.2.2.2.2.2.2.2.2.2.2.2.2.2.2.2.2.2.2.trans (b5.mono hHeld.2.2.2.2.2.2.2.2.2.2.2.2.2.2.2.2.2.2.2.2.2.2.size)⟩) (fun hHeld => ?_)
          clear hK K
          try simp only [Act.put, sIb, sCz, sCs]
          refine tR 9 ?_ (some 26) rfl (by kernel_rfl) rfl (by rfl) ?_ (fun _ _ _ h => h) (by assumption) ?_
          rotate_left
          · intro w hSw; (try dsimp only at hSw); go_simp; (try with_reducible rfl)
          simp only [Act.put, sIb, sCz, sCs]
          refine wpAnyH_done (by kernel_rfl) ?_ _
          go_wp2
          go_roundw
          case rel => exact ⟨j + 1, by omega, by go_num, h_ (take_sameA HT.out HX.out HY.out HD.out), hHeld.2.2.2.2.2.2.2.2.2.2.2.2.2.2.2.2.2.2.2.2.2.2⟩
          case measure => simp [intOf]; omega
      · have hlt' : ¬ (j : Int) < (L.length : Int) := by omega
        go_wp2
        go_ret
        refine ⟨?_, hb⟩
        have e := HT.out
        rw [List.take_of_length_le (by omega), List.take_of_length_le (by have := HE.out; omega)] at e
        rw [← HR.out, sameL_true e]
        rfl
  · have g0 : ((L.length : Int) != (K.length : Int)) = true := by simp; omega
    have g1 : ((L.length : Int) == (K.length : Int)) = false := by simp; omega
    have e : ¬ L = K := fun h => hlen (by rw [h])
    rw [sameL_false e]
    go_enter Tryz.func76, Tryz.ntmps76
    go_wp2
    go_ret
    exact ⟨rfl, Below.refl _ _⟩
end
end Go.Proofs.YthhijfphfcmniaaGreat
