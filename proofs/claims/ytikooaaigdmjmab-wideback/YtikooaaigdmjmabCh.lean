import Derived.Test.YtikooaaigdmjmabCg
namespace Go.Proofs.Ytikooaaigdmjmab
open Go Go.RowKit
set_option linter.unusedVariables false
set_option linter.unusedSimpArgs false

set_option maxRecDepth 100000 in
set_option maxHeartbeats 4000000 in
theorem widePuts_walk (v : Value) (l : List Int) (a b : Nat) (size : Int) (w : World) (hB : Bytes w v l) (ha : a < 18446744073709551616) (hb : b < 18446744073709551616) :
    Calls Try.prog 3 #[v, wd a b, .int .i64 size] w fun e w' => e = .returned (.bool true) ∧ Below w.heap.size w w' := by
  obtain ⟨ao, cap, rfl⟩ := hB.short
  have HB := hide_ hB
  obtain ⟨hx1, hc1, hc2, hx2⟩ := hB.bounds
  clear hB hx1 hx2
  have QP := hide_ (fun v l w (hB : Bytes w v l) hl => wput_any v l a b size w hB hl ha hb)
  have QR := hide_ (fun v l w (hB : Bytes w v l) hl => rwput_any v l a b size w hB hl ha hb)
  unfold wd at *
  generalize wtail a b size = T at *
  by_cases hl : 4000 < l.length
  · have hl' : (4000 : Int) < (l.length : Int) := by omega
    go_enter Try.func3, Try.ntmps3
    go_wp2_with (go_at_call 5; refine (awake2_any _).mono ?_; rintro e w1 ⟨rfl, b1⟩)
    go_ret
    exact ⟨rfl, (by go_grown : Below w.heap.size w (w.alloc (.cells #[.int .u64 (a : Int), .int .u64 (b : Int)] 25))).trans (b1.mono (by simp))⟩
  · have hl' : ¬ (4000 : Int) < (l.length : Int) := by omega
    obtain ⟨i0, hi0, hz0, hz1, hz2⟩ := info_parts info5
    have HI : Hid (Try.prog.info? 5 = some i0 ∧ i0.zero = some (.int .u8 0) ∧ i0.size = 1 ∧ i0.bytes = 1) := ⟨hi0, hz0, hz1, hz2⟩
    clear hi0 hz0 hz1 hz2
    go_enter Try.func3, Try.ntmps3
    go_wp2_with fail
    refine (clone_any _ l _ (HB.out.later (by go_grown)) (by omega)).mono ?_
    rintro e w1 ⟨r, rfl, ho, b1⟩
    have s1 := b1.size
    simp only [World.size_alloc] at s1
    have HO := hide_ ho
    clear ho
    obtain ⟨bel1, c0, c1, k0, k1⟩ := kept2 w w1 (a : Int) (b : Int) 25 b1
    clear k0 k1 b1
    go_wp2_with (at_builtin; refine wpList_append_lit (.tmp 18) (.tmp 19) 22 rfl 5 i0 Try.underlying22 HI.out.1 HI.out.2.1 HI.out.2.2.1 HI.out.2.2.2 (w.heap.size + 1) r l.length (u8s l) (by simp [Act.eval, Act.put]) w1 (ownsRow_base HO.out (by simp)) [9, 8, 7, 6] _ rfl 4 rfl (by simp [Act.eval, Act.put]) (by simp [Region.wanted]) (by simp; omega) (by omega) ?_; intro x w2 ho2 hb2; obtain ⟨g, xc, rfl, hx1, hx2⟩ := own_form ho2 (by simp); simp only [List.length_cons, List.length_nil, Nat.reduceAdd] at hx1)
    have hX := Bytes.ofOwn (l := l ++ [9, 8, 7, 6]) (by rw [u8s_append]; simpa using ho2) (HB.out.isB_.app tail_isB)
    have d0 : w2.cell? ⟨w.heap.size, 0, none⟩ = some (.int .u64 (a : Int)) := by rw [hb2.cell (by simp)]; exact c0
    have d1 : w2.cell? ⟨w.heap.size, 1, none⟩ = some (.int .u64 (b : Int)) := by rw [hb2.cell (by simp)]; exact c1
    have bel2 : Below w.heap.size w w2 := bel1.trans (hb2.mono (by simp))
    have HX := hide_ hX
    have HC := hide_ (hX.cut)
    clear hX ho2 HO c0 c1 hb2 bel1
    have s2 := bel2.size
    have f1 : (0 : Int) ≤ (l.length : Int) := by omega
    have f2 : (l.length : Int) ≤ (xc : Int) := by omega
    have f3 : l.length ≤ xc := by omega
    go_wp2_with fail
    go_region_held3 (fun w' => w'.cell? ⟨w.heap.size, 0, none⟩ = some (.int .u64 (a : Int)) ∧ w'.cell? ⟨w.heap.size, 1, none⟩ = some (.int .u64 (b : Int)) ∧ Below w2.heap.size w2 w')
      (first | (exact keep1 (by assumption) (Nat.le_refl _) (by assumption)) | (exact ⟨by simpa using d0, by simpa using d1, by go_grown⟩))
      (first | (go_at_call 7; refine (QP.out _ l _ (HC.out.later (Below.refl _ _).drew) (by omega)).mono ?_; rintro e w3 ⟨y, rfl, hy, b3⟩))
    rename_i hH
    obtain ⟨e0, e1, b23⟩ := hH
    have HY := hide_ hy
    clear hy b3 d0 d1 f1 f2 f3 HC
    have bel3 := bel2.trans (b23.mono s2)
    have hv3 := HB.out.later bel3
    have HV3 := hide_ hv3
    clear hv3
    go_wp2_with fail
    refine (wget_any _ l size _ HV3.out).mono ?_
    rintro e w4 ⟨rfl, b4⟩
    have HG := hide_ (rwget_any (.slice ao l.length cap) l size)
    generalize gx l size = X at *
    generalize gy l size = Y at *
    generalize gok l size = G at *
    have e0 := cell_later b4 e0
    have e1 := cell_later b4 e1
    have bel4 := bel3.trans (b4.mono bel3.size)
    have b24 := b23.trans (b4.mono b23.size)
    have HV4 := hide_ (HV3.out.later b4)
    have HY4 := hide_ (HY.out.later b4)
    clear HV3 HY b4 b23 bel3
    go_wp2_with fail
    refine (HG.out _ (HV4.out.later (by go_grown))).mono ?_
    rintro e w5 ⟨rfl, b5⟩
    obtain ⟨b45, n0, n1, kk0, kk1⟩ := kept2 w4 w5 (X : Int) (Y : Int) 25 b5
    have e0 := cell_later b45 e0
    have e1 := cell_later b45 e1
    have bel5 := bel4.trans (b45.mono bel4.size)
    have b25 := b24.trans (b45.mono b24.size)
    have HV5 := hide_ (HV4.out.later b45)
    have HY5 := hide_ (HY4.out.later b45)
    have s45 := b45.size
    clear kk0 kk1 HV4 HY4 b5 bel4 b24
    have eA0 : ∀ o : Obj, (w5.alloc o).cell? ⟨w.heap.size, 0, none⟩ = some (.int .u64 (a : Int)) := fun o => cell_later (by go_grown : Below w5.heap.size w5 (w5.alloc o)) e0
    have eA1 : ∀ o : Obj, (w5.alloc o).cell? ⟨w.heap.size, 1, none⟩ = some (.int .u64 (b : Int)) := fun o => cell_later (by go_grown : Below w5.heap.size w5 (w5.alloc o)) e1
    go_wp2_with fail
    refine (QR.out _ l _ (HV5.out.later (by go_grown)) (by omega)).mono ?_
    rintro e w6 ⟨z, rfl, hz, b6⟩
    obtain ⟨b56, m0, m1, kk0, kk1⟩ := kept2 w5 w6 (X : Int) (Y : Int) 25 b6
    have n0 := cell_later b56 n0
    have n1 := cell_later b56 n1
    have bel6 := bel5.trans (b56.mono bel5.size)
    have b26 := b25.trans (b56.mono b25.size)
    have HV6 := hide_ (HV5.out.later b56)
    have HY6 := hide_ (HY5.out.later b56)
    have HZ6 := hide_ hz
    clear kk0 kk1 HV5 HY5 b6 bel5 b25 hz b45 b56 e0 e1 eA0 eA1
    go_wp2_with fail
    refine (equal_any y z _ _ w6 HY6.out HZ6.out).mono ?_
    rintro e w7 ⟨rfl, b7⟩
    have hE : (l ++ T == l ++ T) = true := by simp
    have n0 := cell_later b7 n0
    have n1 := cell_later b7 n1
    have m0 := cell_later b7 m0
    have m1 := cell_later b7 m1
    have bel7 := bel6.trans (b7.mono bel6.size)
    have b27 := b26.trans (b7.mono b26.size)
    have HV7 := hide_ (HV6.out.later b7)
    clear HV6 HY6 HZ6 bel6 b26 b7
    go_wp2_with fail
    refine (clone_any _ l w7 HV7.out (by omega)).mono ?_
    rintro e w8 ⟨r2, rfl, ho8, b8⟩
    have s8 := b8.size
    have HO8 := hide_ ho8
    clear ho8
    go_wp2_with (at_builtin; refine wpList_append_lit (.tmp 49) (.tmp 50) 22 rfl 5 i0 Try.underlying22 HI.out.1 HI.out.2.1 HI.out.2.2.1 HI.out.2.2.2 w7.heap.size r2 l.length (u8s l) (by simp [Act.eval, Act.put]) w8 HO8.out [9, 8, 7, 6] _ rfl 4 rfl (by simp [Act.eval, Act.put]) (by simp [Region.wanted, yielded]) (by simp; omega) (by omega) ?_; intro x2 w9 ho9 hb9)
    have hX2 := Bytes.ofOwn (l := l ++ [9, 8, 7, 6]) (by rw [u8s_append]; simpa using ho9) (HB.out.isB_.app tail_isB)
    have b79 := b8.trans hb9
    have n0 := cell_later b79 n0
    have n1 := cell_later b79 n1
    have m0 := cell_later b79 m0
    have m1 := cell_later b79 m1
    have bel9 := bel7.trans (b79.mono bel7.size)
    have b29 := b27.trans (b79.mono b27.size)
    refine (equal_any _ x2 _ _ w9 (HX.out.later b29) hX2).mono ?_
    rintro e w10 ⟨rfl, b10⟩
    have hE2 : (l ++ [9, 8, 7, 6] == l ++ [9, 8, 7, 6]) = true := by simp
    have n0 := cell_later b10 n0
    have n1 := cell_later b10 n1
    have m0 := cell_later b10 m0
    have m1 := cell_later b10 m1
    have bel10 := bel9.trans (b10.mono bel9.size)
    clear hX2 ho9 HX HO8 b79 b8 hb9 b29 b27 bel9 bel7 b10 HV7 bel2
    have hE3 : (G == G) = true := by simp
    go_wp2_with (go_at_call 5; refine (awake2_any _).mono ?_; rintro e w11 ⟨rfl, b11⟩)
    go_ret
    exact ⟨rfl, bel10.trans (b11.mono bel10.size)⟩
end Go.Proofs.Ytikooaaigdmjmab
