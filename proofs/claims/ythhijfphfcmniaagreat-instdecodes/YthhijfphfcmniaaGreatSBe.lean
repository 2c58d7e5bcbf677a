import Derived.Test.YthhijfphfcmniaaGreatSAe
import Derived.Test.YthhijfphfcmniaaGreatNMe
import Derived.Test.YthhijfphfcmniaaGreatJEe
import Derived.Deep.RegionHeld3
import Derived.Deep.RegionWith
import Derived.Deep.MidRow
import Derived.Deep.Cut
set_option maxRecDepth 100000
set_option maxHeartbeats 8000000
set_option linter.unusedVariables false
set_option linter.unusedSimpArgs false
namespace Go.Proofs.YthhijfphfcmniaaGreat
section
open Go Go.RowKit
theorem psbe0 (w : World) : Hid (AB (((w.alloc (.cells #[.int .i64 0, .int .i64 0, .int .u64 0, .int .u64 0, .int .u64 0, .int .u64 0, .slice none 0 0] 34)).alloc (.cells #[.bool false, .int .i64 0, .int .i64 0] 44)).alloc (.cells #[.int .i64 3, .int .i64 0, .int .u64 0, .int .u64 0, .int .u64 0, .int .u64 0, .slice none 0 0] 34)) w.heap.size 34 [.int .i64 0, .int .i64 0, .int .u64 0, .int .u64 0, .int .u64 0, .int .u64 0, .slice none 0 0]) := h_ (((AB.at0 w 34 [.int .i64 0, .int .i64 0, .int .u64 0, .int .u64 0, .int .u64 0, .int .u64 0, .slice none 0 0]).alloc (.cells #[.bool false, .int .i64 0, .int .i64 0] 44)).alloc (.cells #[.int .i64 3, .int .i64 0, .int .u64 0, .int .u64 0, .int .u64 0, .int .u64 0, .slice none 0 0] 34))
theorem psbe1 (w : World) : Hid (AB (((w.alloc (.cells #[.int .i64 0, .int .i64 0, .int .u64 0, .int .u64 0, .int .u64 0, .int .u64 0, .slice none 0 0] 34)).alloc (.cells #[.bool false, .int .i64 0, .int .i64 0] 44)).alloc (.cells #[.int .i64 3, .int .i64 0, .int .u64 0, .int .u64 0, .int .u64 0, .int .u64 0, .slice none 0 0] 34)) (w.heap.size + 1) 44 [.bool false, .int .i64 0, .int .i64 0]) := h_ ((AB.at1 w (.cells #[.int .i64 0, .int .i64 0, .int .u64 0, .int .u64 0, .int .u64 0, .int .u64 0, .slice none 0 0] 34) 44 [.bool false, .int .i64 0, .int .i64 0]).alloc (.cells #[.int .i64 3, .int .i64 0, .int .u64 0, .int .u64 0, .int .u64 0, .int .u64 0, .slice none 0 0] 34))
theorem psbe2 (w : World) : Hid (AB (((w.alloc (.cells #[.int .i64 0, .int .i64 0, .int .u64 0, .int .u64 0, .int .u64 0, .int .u64 0, .slice none 0 0] 34)).alloc (.cells #[.bool false, .int .i64 0, .int .i64 0] 44)).alloc (.cells #[.int .i64 3, .int .i64 0, .int .u64 0, .int .u64 0, .int .u64 0, .int .u64 0, .slice none 0 0] 34)) (w.heap.size + 1 + 1) 34 [.int .i64 3, .int .i64 0, .int .u64 0, .int .u64 0, .int .u64 0, .int .u64 0, .slice none 0 0]) := h_ (by have := AB.at0 ((w.alloc (.cells #[.int .i64 0, .int .i64 0, .int .u64 0, .int .u64 0, .int .u64 0, .int .u64 0, .slice none 0 0] 34)).alloc (.cells #[.bool false, .int .i64 0, .int .i64 0] 44)) 34 [.int .i64 3, .int .i64 0, .int .u64 0, .int .u64 0, .int .u64 0, .int .u64 0, .slice none 0 0]; simpa using this)
theorem psbe3 (w : World) : Hid (Below w.heap.size w (((w.alloc (.cells #[.int .i64 0, .int .i64 0, .int .u64 0, .int .u64 0, .int .u64 0, .int .u64 0, .slice none 0 0] 34)).alloc (.cells #[.bool false, .int .i64 0, .int .i64 0] 44)).alloc (.cells #[.int .i64 3, .int .i64 0, .int .u64 0, .int .u64 0, .int .u64 0, .int .u64 0, .slice none 0 0] 34))) := h_ ((Below.refl _ _).alloc (Nat.le_refl _) _ |>.alloc (by simp) _ |>.alloc (by simp; omega) _)
theorem psbe4 (w : World) : Hid (AB (((w.alloc (.cells #[.int .i64 0, .int .i64 0, .int .u64 0, .int .u64 0, .int .u64 0, .int .u64 0, .slice none 0 0] 34)).alloc (.cells #[.bool false, .int .i64 0, .int .i64 0] 44)).alloc (.cells #[.int .i64 4, .int .i64 0, .int .u64 0, .int .u64 0, .int .u64 0, .int .u64 0, .slice none 0 0] 34)) w.heap.size 34 [.int .i64 0, .int .i64 0, .int .u64 0, .int .u64 0, .int .u64 0, .int .u64 0, .slice none 0 0]) := h_ (((AB.at0 w 34 [.int .i64 0, .int .i64 0, .int .u64 0, .int .u64 0, .int .u64 0, .int .u64 0, .slice none 0 0]).alloc (.cells #[.bool false, .int .i64 0, .int .i64 0] 44)).alloc (.cells #[.int .i64 4, .int .i64 0, .int .u64 0, .int .u64 0, .int .u64 0, .int .u64 0, .slice none 0 0] 34))
theorem psbe5 (w : World) : Hid (AB (((w.alloc (.cells #[.int .i64 0, .int .i64 0, .int .u64 0, .int .u64 0, .int .u64 0, .int .u64 0, .slice none 0 0] 34)).alloc (.cells #[.bool false, .int .i64 0, .int .i64 0] 44)).alloc (.cells #[.int .i64 4, .int .i64 0, .int .u64 0, .int .u64 0, .int .u64 0, .int .u64 0, .slice none 0 0] 34)) (w.heap.size + 1) 44 [.bool false, .int .i64 0, .int .i64 0]) := h_ ((AB.at1 w (.cells #[.int .i64 0, .int .i64 0, .int .u64 0, .int .u64 0, .int .u64 0, .int .u64 0, .slice none 0 0] 34) 44 [.bool false, .int .i64 0, .int .i64 0]).alloc (.cells #[.int .i64 4, .int .i64 0, .int .u64 0, .int .u64 0, .int .u64 0, .int .u64 0, .slice none 0 0] 34))
theorem psbe6 (w : World) : Hid (AB (((w.alloc (.cells #[.int .i64 0, .int .i64 0, .int .u64 0, .int .u64 0, .int .u64 0, .int .u64 0, .slice none 0 0] 34)).alloc (.cells #[.bool false, .int .i64 0, .int .i64 0] 44)).alloc (.cells #[.int .i64 4, .int .i64 0, .int .u64 0, .int .u64 0, .int .u64 0, .int .u64 0, .slice none 0 0] 34)) (w.heap.size + 1 + 1) 34 [.int .i64 4, .int .i64 0, .int .u64 0, .int .u64 0, .int .u64 0, .int .u64 0, .slice none 0 0]) := h_ (by have := AB.at0 ((w.alloc (.cells #[.int .i64 0, .int .i64 0, .int .u64 0, .int .u64 0, .int .u64 0, .int .u64 0, .slice none 0 0] 34)).alloc (.cells #[.bool false, .int .i64 0, .int .i64 0] 44)) 34 [.int .i64 4, .int .i64 0, .int .u64 0, .int .u64 0, .int .u64 0, .int .u64 0, .slice none 0 0]; simpa using this)
theorem psbe7 (w : World) : Hid (Below w.heap.size w (((w.alloc (.cells #[.int .i64 0, .int .i64 0, .int .u64 0, .int .u64 0, .int .u64 0, .int .u64 0, .slice none 0 0] 34)).alloc (.cells #[.bool false, .int .i64 0, .int .i64 0] 44)).alloc (.cells #[.int .i64 4, .int .i64 0, .int .u64 0, .int .u64 0, .int .u64 0, .int .u64 0, .slice none 0 0] 34))) := h_ ((Below.refl _ _).alloc (Nat.le_refl _) _ |>.alloc (by simp) _ |>.alloc (by simp; omega) _)
end
open Go Go.RowKit
theorem ro_a3 (v : Value) (l : List Int) (L : List A11) (nL : Nat) (w : World) (hB : Bytes w v l) (h8 : 8 ≤ l.length) (hP : ∀ (v : Value) (W : World), Bytes W v (l.drop 8) → Calls Tryz.prog 96 #[v] W fun e w' => (∃ r, e = .returned (.tuple #[r, .agg #[.bool false, .int .i64 0, .int .i64 0]]) ∧ w'.ownsRow W.heap.size 61 11 r nL (ads L)) ∧ Below W.heap.size W w') :
    Calls Tryz.prog 57 #[.int .i64 3, v] w fun e w' => (∃ r, e = .returned (.tuple #[.agg #[.int .i64 3, .int .i64 0, .int .u64 0, .int .u64 0, .int .u64 0, .int .u64 0, r], .agg #[.bool false, .int .i64 0, .int .i64 0]]) ∧ w'.ownsRow w.heap.size 61 11 r nL (ads L)) ∧ Below w.heap.size w w' := by
  have hm := hmC2 hB
  obtain ⟨ao, cap, rfl⟩ := hB.short
  obtain ⟨ao4, -, sl4, b4⟩ := bytes_slice hB 8 h8
  have sl4 : ∀ wx, (Instr.slice 25 (.slice ao l.length cap) (some (.int .i64 8)) none none).run Tryz.prog wx = .ok (.slice ao4 (l.length - 8) (cap - 8)) wx := sl4
  have qd := h_ (fun W (hW : Below w.heap.size w W) => hP _ W (b4.later (w' := W) hW))
  have R0 := psbe0 w
  have F0 := psbe1 w
  have I0 := psbe2 w
  have k0 := psbe3 w
  clear hB h8 b4 hP
  go_enter Tryz.func57, Tryz.ntmps57
  go_upto_region 15 with (go_at_call 96; refine (qd.out _ k0.out).mono ?_; rintro e w1 ⟨⟨r, rfl, hR⟩, b1⟩; obtain ⟨ra, rc, e2⟩ := ownr_form hR; subst e2; have bj := b1.trans ((below1 w1 (.cells #[.bool false, .int .i64 0, .int .i64 0] 44)).mono b1.size); have k1 := h_ (k0.out.trans (bj.mono k0.out.size)); have R1 := h_ (R0.out.later bj); have F1 := h_ (F0.out.later bj); have I1 := h_ (I0.out.later bj); have HR1 := h_ (ownr_later (ownr_base hR (base' := w.heap.size + 1 + 1 + 1) (by simp)) (below1 w1 (.cells #[.bool false, .int .i64 0, .int .i64 0] 44))); obtain ⟨i0, i1, i2, i3, i4, i5, i6, i7, i8, i9, i10, i11, i12, i13⟩ := I1.out.k7; obtain ⟨m0, m1, m2, -⟩ := (AB.at0 w1 44 [.bool false, .int .i64 0, .int .i64 0]).three; clear b1 hR bj)
  generalize (w1.alloc (.cells #[.bool false, .int .i64 0, .int .i64 0] 44)) = Y1 at *
  go_upto_region 18 with fail
  have R6 := R1.out.far (f := w.heap.size + 1 + 1) (o := 6) (.slice ra nL rc) (by omega)
  have F6 := F1.out.far (f := w.heap.size + 1 + 1) (o := 6) (.slice ra nL rc) (by omega)
  have I6_ : AB (Y1.setCell ⟨w.heap.size + 1 + 1, 6, none⟩ (.slice ra nL rc)) (w.heap.size + 1 + 1) 34 [.int .i64 3, .int .i64 0, .int .u64 0, .int .u64 0, .int .u64 0, .int .u64 0, .slice ra nL rc] := I1.out.set (j := 6) _
  have k6 := k1.out.setCell (p := ⟨w.heap.size + 1 + 1, 6, none⟩) (by dsimp only; omega) (.slice ra nL rc)
  have HR0 := h_ (own_setI (g := w.heap.size + 1 + 1) (o := 6) HR1.out (by omega) (.slice ra nL rc))
  clear i0 i1 i2 i3 i4 i5 i6 i7 i8 i9 i10 i11 i12 i13 R1 F1 I1 k1 HR1
  generalize (Y1.setCell ⟨w.heap.size + 1 + 1, 6, none⟩ (.slice ra nL rc)) = X1 at *
  obtain ⟨t0, t1, t2, t3, t4, t5, t6, t7, t8, t9, t10, t11, t12, t13⟩ := I6_.k7
  obtain ⟨s0, s1, s2, s3, s4, s5, s6, s7, s8, s9, s10, s11, s12, s13⟩ := R6.k7
  have F7 := F6.far7 (f := w.heap.size) (by omega) (.int .i64 3) (.int .i64 0) (.int .u64 0) (.int .u64 0) (.int .u64 0) (.int .u64 0) (.slice ra nL rc)
  obtain ⟨p0, p1, p2, p3, p4, p5⟩ := F7.three
  obtain ⟨u0, u1, u2, u3, u4, u5, u6, -⟩ := ((R6.set7 (.int .i64 3) (.int .i64 0) (.int .u64 0) (.int .u64 0) (.int .u64 0) (.int .u64 0) (.slice ra nL rc)).farx3 (f := w.heap.size + 1) (by omega) (.bool false) (.int .i64 0) (.int .i64 0)).k7
  obtain ⟨u7, u8, u9, -⟩ := (F7.set3 (.bool false) (.int .i64 0) (.int .i64 0)).three
  have bb := below_set3 (g := w.heap.size + 1) (below_set7 (n := w.heap.size) k6 (Nat.le_refl _) (.int .i64 3) (.int .i64 0) (.int .u64 0) (.int .u64 0) (.int .u64 0) (.int .u64 0) (.slice ra nL rc)) (by omega) (.bool false) (.int .i64 0) (.int .i64 0)
  go_wp2_with fail
  refine bodyPost_ret (v := .tuple #[.agg #[.int .i64 3, .int .i64 0, .int .u64 0, .int .u64 0, .int .u64 0, .int .u64 0, .slice ra nL rc], .agg #[.bool false, .int .i64 0, .int .i64 0]]) (by simp [results, Tryz.results57, go_sem, u0, u1, u2, u3, u4, u5, u6, u7, u8, u9]) rfl ⟨⟨_, rfl, ?_⟩, bb⟩
  refine ownr_base (base := w.heap.size + 1 + 1 + 1) ?_ (by omega)
  exact (own_setI (g := w.heap.size + 1) (own_setI (g := w.heap.size + 1) (own_setI (g := w.heap.size + 1) (own_setI (g := w.heap.size) (own_setI (g := w.heap.size) (own_setI (g := w.heap.size) (own_setI (g := w.heap.size) (own_setI (g := w.heap.size) (own_setI (g := w.heap.size) (own_setI (g := w.heap.size) HR0.out (by omega) _) (by omega) _) (by omega) _) (by omega) _) (by omega) _) (by omega) _) (by omega) _) (by omega) _) (by omega) _) (by omega) _)
theorem ro_a4 (v : Value) (l : List Int) (L : List A11) (nL : Nat) (w : World) (hB : Bytes w v l) (h8 : 8 ≤ l.length) (hP : ∀ (v : Value) (W : World), Bytes W v (l.drop 8) → Calls Tryz.prog 96 #[v] W fun e w' => (∃ r, e = .returned (.tuple #[r, .agg #[.bool false, .int .i64 0, .int .i64 0]]) ∧ w'.ownsRow W.heap.size 61 11 r nL (ads L)) ∧ Below W.heap.size W w') :
    Calls Tryz.prog 57 #[.int .i64 4, v] w fun e w' => (∃ r, e = .returned (.tuple #[.agg #[.int .i64 4, .int .i64 0, .int .u64 0, .int .u64 0, .int .u64 0, .int .u64 0, r], .agg #[.bool false, .int .i64 0, .int .i64 0]]) ∧ w'.ownsRow w.heap.size 61 11 r nL (ads L)) ∧ Below w.heap.size w w' := by
  have hm := hmC2 hB
  obtain ⟨ao, cap, rfl⟩ := hB.short
  obtain ⟨ao4, -, sl4, b4⟩ := bytes_slice hB 8 h8
  have sl4 : ∀ wx, (Instr.slice 25 (.slice ao l.length cap) (some (.int .i64 8)) none none).run Tryz.prog wx = .ok (.slice ao4 (l.length - 8) (cap - 8)) wx := sl4
  have qd := h_ (fun W (hW : Below w.heap.size w W) => hP _ W (b4.later (w' := W) hW))
  have R0 := psbe4 w
  have F0 := psbe5 w
  have I0 := psbe6 w
  have k0 := psbe7 w
  clear hB h8 b4 hP
  go_enter Tryz.func57, Tryz.ntmps57
  go_upto_region 15 with (go_at_call 96; refine (qd.out _ k0.out).mono ?_; rintro e w1 ⟨⟨r, rfl, hR⟩, b1⟩; obtain ⟨ra, rc, e2⟩ := ownr_form hR; subst e2; have bj := b1.trans ((below1 w1 (.cells #[.bool false, .int .i64 0, .int .i64 0] 44)).mono b1.size); have k1 := h_ (k0.out.trans (bj.mono k0.out.size)); have R1 := h_ (R0.out.later bj); have F1 := h_ (F0.out.later bj); have I1 := h_ (I0.out.later bj); have HR1 := h_ (ownr_later (ownr_base hR (base' := w.heap.size + 1 + 1 + 1) (by simp)) (below1 w1 (.cells #[.bool false, .int .i64 0, .int .i64 0] 44))); obtain ⟨i0, i1, i2, i3, i4, i5, i6, i7, i8, i9, i10, i11, i12, i13⟩ := I1.out.k7; obtain ⟨m0, m1, m2, -⟩ := (AB.at0 w1 44 [.bool false, .int .i64 0, .int .i64 0]).three; clear b1 hR bj)
  generalize (w1.alloc (.cells #[.bool false, .int .i64 0, .int .i64 0] 44)) = Y1 at *
  go_upto_region 18 with fail
  have R6 := R1.out.far (f := w.heap.size + 1 + 1) (o := 6) (.slice ra nL rc) (by omega)
  have F6 := F1.out.far (f := w.heap.size + 1 + 1) (o := 6) (.slice ra nL rc) (by omega)
  have I6_ : AB (Y1.setCell ⟨w.heap.size + 1 + 1, 6, none⟩ (.slice ra nL rc)) (w.heap.size + 1 + 1) 34 [.int .i64 4, .int .i64 0, .int .u64 0, .int .u64 0, .int .u64 0, .int .u64 0, .slice ra nL rc] := I1.out.set (j := 6) _
  have k6 := k1.out.setCell (p := ⟨w.heap.size + 1 + 1, 6, none⟩) (by dsimp only; omega) (.slice ra nL rc)
  have HR0 := h_ (own_setI (g := w.heap.size + 1 + 1) (o := 6) HR1.out (by omega) (.slice ra nL rc))
  clear i0 i1 i2 i3 i4 i5 i6 i7 i8 i9 i10 i11 i12 i13 R1 F1 I1 k1 HR1
  generalize (Y1.setCell ⟨w.heap.size + 1 + 1, 6, none⟩ (.slice ra nL rc)) = X1 at *
  obtain ⟨t0, t1, t2, t3, t4, t5, t6, t7, t8, t9, t10, t11, t12, t13⟩ := I6_.k7
  obtain ⟨s0, s1, s2, s3, s4, s5, s6, s7, s8, s9, s10, s11, s12, s13⟩ := R6.k7
  have F7 := F6.far7 (f := w.heap.size) (by omega) (.int .i64 4) (.int .i64 0) (.int .u64 0) (.int .u64 0) (.int .u64 0) (.int .u64 0) (.slice ra nL rc)
  obtain ⟨p0, p1, p2, p3, p4, p5⟩ := F7.three
  obtain ⟨u0, u1, u2, u3, u4, u5, u6, -⟩ := ((R6.set7 (.int .i64 4) (.int .i64 0) (.int .u64 0) (.int .u64 0) (.int .u64 0) (.int .u64 0) (.slice ra nL rc)).farx3 (f := w.heap.size + 1) (by omega) (.bool false) (.int .i64 0) (.int .i64 0)).k7
  obtain ⟨u7, u8, u9, -⟩ := (F7.set3 (.bool false) (.int .i64 0) (.int .i64 0)).three
  have bb := below_set3 (g := w.heap.size + 1) (below_set7 (n := w.heap.size) k6 (Nat.le_refl _) (.int .i64 4) (.int .i64 0) (.int .u64 0) (.int .u64 0) (.int .u64 0) (.int .u64 0) (.slice ra nL rc)) (by omega) (.bool false) (.int .i64 0) (.int .i64 0)
  go_wp2_with fail
  refine bodyPost_ret (v := .tuple #[.agg #[.int .i64 4, .int .i64 0, .int .u64 0, .int .u64 0, .int .u64 0, .int .u64 0, .slice ra nL rc], .agg #[.bool false, .int .i64 0, .int .i64 0]]) (by simp [results, Tryz.results57, go_sem, u0, u1, u2, u3, u4, u5, u6, u7, u8, u9]) rfl ⟨⟨_, rfl, ?_⟩, bb⟩
  refine ownr_base (base := w.heap.size + 1 + 1 + 1) ?_ (by omega)
  exact (own_setI (g := w.heap.size + 1) (own_setI (g := w.heap.size + 1) (own_setI (g := w.heap.size + 1) (own_setI (g := w.heap.size) (own_setI (g := w.heap.size) (own_setI (g := w.heap.size) (own_setI (g := w.heap.size) (own_setI (g := w.heap.size) (own_setI (g := w.heap.size) (own_setI (g := w.heap.size) HR0.out (by omega) _) (by omega) _) (by omega) _) (by omega) _) (by omega) _) (by omega) _) (by omega) _) (by omega) _) (by omega) _) (by omega) _)
theorem ro_x3 (v : Value) (l : List Int) (c d : Int) (w : World) (hB : Bytes w v l) (h8 : 8 ≤ l.length) (hP : ∀ (v : Value) (W : World), Bytes W v (l.drop 8) → Calls Tryz.prog 96 #[v] W fun e w' => e = .returned (.tuple #[.slice none 0 0, .agg #[.bool true, .int .i64 c, .int .i64 d]]) ∧ Below W.heap.size W w') :
    Calls Tryz.prog 57 #[.int .i64 3, v] w fun e w' => e = .returned (.tuple #[.agg #[.int .i64 0, .int .i64 0, .int .u64 0, .int .u64 0, .int .u64 0, .int .u64 0, .slice none 0 0], .agg #[.bool true, .int .i64 c, .int .i64 d]]) ∧ Below w.heap.size w w' := by
  have hm := hmC2 hB
  obtain ⟨ao, cap, rfl⟩ := hB.short
  obtain ⟨ao4, -, sl4, b4⟩ := bytes_slice hB 8 h8
  have sl4 : ∀ wx, (Instr.slice 25 (.slice ao l.length cap) (some (.int .i64 8)) none none).run Tryz.prog wx = .ok (.slice ao4 (l.length - 8) (cap - 8)) wx := sl4
  have qd := h_ (fun W (hW : Below w.heap.size w W) => hP _ W (b4.later (w' := W) hW))
  have R0 := psbe0 w
  have F0 := psbe1 w
  have I0 := psbe2 w
  have k0 := psbe3 w
  clear hB h8 b4 hP
  go_enter Tryz.func57, Tryz.ntmps57
  go_upto_region 16 with (go_at_call 96; refine (qd.out _ k0.out).mono ?_; rintro e w5 ⟨rfl, b5⟩; have k5 := h_ (k0.out.trans (b5.mono k0.out.size)); have R5 := h_ (R0.out.later b5); have F5 := h_ (F0.out.later b5); obtain ⟨m0, m1, m2, -⟩ := (AB.at0 w5 44 [.bool true, .int .i64 c, .int .i64 d]).three; clear b5)
  have bj := below1 w5 (.cells #[.bool true, .int .i64 c, .int .i64 d] 44)
  have R6 := h_ (R5.out.later bj)
  have F6 := h_ (F5.out.later bj)
  have k6 : Hid (Below w.heap.size w (w5.alloc (.cells #[.bool true, .int .i64 c, .int .i64 d] 44))) := h_ (k5.out.trans (bj.mono k5.out.size))
  obtain ⟨f0, f1, f2, -⟩ := (AB.at0 w5 44 [.bool true, .int .i64 c, .int .i64 d]).three
  have hgM : w.heap.size + 2 ≤ w5.heap.size := by have := F5.out.lt; omega
  clear bj
  generalize (w5.alloc (.cells #[.bool true, .int .i64 c, .int .i64 d] 44)) = X at *
  generalize w5.heap.size = gM at *
  have RD : AB X.drew w.heap.size 34 [.int .i64 0, .int .i64 0, .int .u64 0, .int .u64 0, .int .u64 0, .int .u64 0, .slice none 0 0] := R6.out
  have FD : AB X.drew (w.heap.size + 1) 44 [.bool false, .int .i64 0, .int .i64 0] := F6.out
  obtain ⟨s0, s1, s2, s3, s4, s5, s6, s7, s8, s9, s10, s11, s12, s13⟩ := RD.k7
  have F7 := FD.far7 (f := w.heap.size) (by omega) (.int .i64 0) (.int .i64 0) (.int .u64 0) (.int .u64 0) (.int .u64 0) (.int .u64 0) (.slice none 0 0)
  obtain ⟨p0, p1, p2, p3, p4, p5⟩ := F7.three
  obtain ⟨u0, u1, u2, u3, u4, u5, u6, -⟩ := ((RD.set7 (.int .i64 0) (.int .i64 0) (.int .u64 0) (.int .u64 0) (.int .u64 0) (.int .u64 0) (.slice none 0 0)).farx3 (f := w.heap.size + 1) (by omega) (.bool true) (.int .i64 c) (.int .i64 d)).k7
  obtain ⟨u7, u8, u9, -⟩ := (F7.set3 (.bool true) (.int .i64 c) (.int .i64 d)).three
  clear RD FD F7
  refine wp_region_held_drew (S := (fun w' => w'.cell? ⟨gM, 0, none⟩ = some (.bool true) ∧ w'.cell? ⟨gM, 1, none⟩ = some (.int .i64 c) ∧ w'.cell? ⟨gM, 2, none⟩ = some (.int .i64 d) ∧ Below w.heap.size w w')) (by kernel_rfl) (⟨f0, f1, f2, k6.out.drew⟩) (fun hHeld => ?_)
  generalize X.drew = DD at *
  refine tR 0 ?_ (some 56) rfl (by kernel_rfl) rfl (by rfl) ?_ (fun _ _ _ h => h) (by assumption) ?_
  rotate_left
  · intro w hSw; (try dsimp only at hSw); go_simp; (try with_reducible rfl)
  simp only [Act.put, sIb, sCz, sCs]
  refine tR 1 ?_ (some 57) rfl (by kernel_rfl) rfl (by rfl) ?_ (fun _ _ _ h => h) (by assumption) ?_
  rotate_left
  · intro w hSw; (try dsimp only at hSw); go_simp; (try with_reducible rfl)
  simp only [Act.put, sIb, sCz, sCs]
  refine wpAnyH_ready (rs := [2]) (by kernel_rfl) (by simp) ?_
  refine AllReadyH.cons rfl (fun K hK => ?_) (AllReadyH.nil)
  go_simp
  refine hK.out _ _ (⟨(cell_fill7 (by dsimp only; omega) _ _ _ _ _ _ _).trans hHeld.1, (cell_fill7 (by dsimp only; omega) _ _ _ _ _ _ _).trans hHeld.2.1, (cell_fill7 (by dsimp only; omega) _ _ _ _ _ _ _).trans hHeld.2.2.1, below_set7 (n := w.heap.size) hHeld.2.2.2 (Nat.le_refl _) _ _ _ _ _ _ _⟩) (fun hHeld => ?_)
  clear hK K
  try simp only [Act.put, sIb, sCz, sCs]
  refine wpAnyH_ready (rs := [3]) (by kernel_rfl) (by simp) ?_
  refine AllReadyH.cons rfl (fun K hK => ?_) (AllReadyH.nil)
  go_simp
  refine hK.out _ _ (kW3_3 hHeld (by omega) (by dsimp only; omega) (by dsimp only; omega) (by dsimp only; omega)) (fun hHeld => ?_)
  clear hK K
  try simp only [Act.put, sIb, sCz, sCs]
  refine wpAnyH_done (by kernel_rfl) ?_ _
  go_wp2_with fail
  exact bodyPost_ret (v := .tuple #[.agg #[.int .i64 0, .int .i64 0, .int .u64 0, .int .u64 0, .int .u64 0, .int .u64 0, .slice none 0 0], .agg #[.bool true, .int .i64 c, .int .i64 d]]) (by simp [results, Tryz.results57, go_sem, u0, u1, u2, u3, u4, u5, u6, u7, u8, u9]) rfl ⟨rfl, hHeld.2.2.2⟩
theorem ro_x4 (v : Value) (l : List Int) (c d : Int) (w : World) (hB : Bytes w v l) (h8 : 8 ≤ l.length) (hP : ∀ (v : Value) (W : World), Bytes W v (l.drop 8) → Calls Tryz.prog 96 #[v] W fun e w' => e = .returned (.tuple #[.slice none 0 0, .agg #[.bool true, .int .i64 c, .int .i64 d]]) ∧ Below W.heap.size W w') :
    Calls Tryz.prog 57 #[.int .i64 4, v] w fun e w' => e = .returned (.tuple #[.agg #[.int .i64 0, .int .i64 0, .int .u64 0, .int .u64 0, .int .u64 0, .int .u64 0, .slice none 0 0], .agg #[.bool true, .int .i64 c, .int .i64 d]]) ∧ Below w.heap.size w w' := by
  have hm := hmC2 hB
  obtain ⟨ao, cap, rfl⟩ := hB.short
  obtain ⟨ao4, -, sl4, b4⟩ := bytes_slice hB 8 h8
  have sl4 : ∀ wx, (Instr.slice 25 (.slice ao l.length cap) (some (.int .i64 8)) none none).run Tryz.prog wx = .ok (.slice ao4 (l.length - 8) (cap - 8)) wx := sl4
  have qd := h_ (fun W (hW : Below w.heap.size w W) => hP _ W (b4.later (w' := W) hW))
  have R0 := psbe4 w
  have F0 := psbe5 w
  have I0 := psbe6 w
  have k0 := psbe7 w
  clear hB h8 b4 hP
  go_enter Tryz.func57, Tryz.ntmps57
  go_upto_region 16 with (go_at_call 96; refine (qd.out _ k0.out).mono ?_; rintro e w5 ⟨rfl, b5⟩; have k5 := h_ (k0.out.trans (b5.mono k0.out.size)); have R5 := h_ (R0.out.later b5); have F5 := h_ (F0.out.later b5); obtain ⟨m0, m1, m2, -⟩ := (AB.at0 w5 44 [.bool true, .int .i64 c, .int .i64 d]).three; clear b5)
  have bj := below1 w5 (.cells #[.bool true, .int .i64 c, .int .i64 d] 44)
  have R6 := h_ (R5.out.later bj)
  have F6 := h_ (F5.out.later bj)
  have k6 : Hid (Below w.heap.size w (w5.alloc (.cells #[.bool true, .int .i64 c, .int .i64 d] 44))) := h_ (k5.out.trans (bj.mono k5.out.size))
  obtain ⟨f0, f1, f2, -⟩ := (AB.at0 w5 44 [.bool true, .int .i64 c, .int .i64 d]).three
  have hgM : w.heap.size + 2 ≤ w5.heap.size := by have := F5.out.lt; omega
  clear bj
  generalize (w5.alloc (.cells #[.bool true, .int .i64 c, .int .i64 d] 44)) = X at *
  generalize w5.heap.size = gM at *
  have RD : AB X.drew w.heap.size 34 [.int .i64 0, .int .i64 0, .int .u64 0, .int .u64 0, .int .u64 0, .int .u64 0, .slice none 0 0] := R6.out
  have FD : AB X.drew (w.heap.size + 1) 44 [.bool false, .int .i64 0, .int .i64 0] := F6.out
  obtain ⟨s0, s1, s2, s3, s4, s5, s6, s7, s8, s9, s10, s11, s12, s13⟩ := RD.k7
  have F7 := FD.far7 (f := w.heap.size) (by omega) (.int .i64 0) (.int .i64 0) (.int .u64 0) (.int .u64 0) (.int .u64 0) (.int .u64 0) (.slice none 0 0)
  obtain ⟨p0, p1, p2, p3, p4, p5⟩ := F7.three
  obtain ⟨u0, u1, u2, u3, u4, u5, u6, -⟩ := ((RD.set7 (.int .i64 0) (.int .i64 0) (.int .u64 0) (.int .u64 0) (.int .u64 0) (.int .u64 0) (.slice none 0 0)).farx3 (f := w.heap.size + 1) (by omega) (.bool true) (.int .i64 c) (.int .i64 d)).k7
  obtain ⟨u7, u8, u9, -⟩ := (F7.set3 (.bool true) (.int .i64 c) (.int .i64 d)).three
  clear RD FD F7
  refine wp_region_held_drew (S := (fun w' => w'.cell? ⟨gM, 0, none⟩ = some (.bool true) ∧ w'.cell? ⟨gM, 1, none⟩ = some (.int .i64 c) ∧ w'.cell? ⟨gM, 2, none⟩ = some (.int .i64 d) ∧ Below w.heap.size w w')) (by kernel_rfl) (⟨f0, f1, f2, k6.out.drew⟩) (fun hHeld => ?_)
  generalize X.drew = DD at *
  refine tR 0 ?_ (some 56) rfl (by kernel_rfl) rfl (by rfl) ?_ (fun _ _ _ h => h) (by assumption) ?_
  rotate_left
  · intro w hSw; (try dsimp only at hSw); go_simp; (try with_reducible rfl)
  simp only [Act.put, sIb, sCz, sCs]
  refine tR 1 ?_ (some 57) rfl (by kernel_rfl) rfl (by rfl) ?_ (fun _ _ _ h => h) (by assumption) ?_
  rotate_left
  · intro w hSw; (try dsimp only at hSw); go_simp; (try with_reducible rfl)
  simp only [Act.put, sIb, sCz, sCs]
  refine wpAnyH_ready (rs := [2]) (by kernel_rfl) (by simp) ?_
  refine AllReadyH.cons rfl (fun K hK => ?_) (AllReadyH.nil)
  go_simp
  refine hK.out _ _ (⟨(cell_fill7 (by dsimp only; omega) _ _ _ _ _ _ _).trans hHeld.1, (cell_fill7 (by dsimp only; omega) _ _ _ _ _ _ _).trans hHeld.2.1, (cell_fill7 (by dsimp only; omega) _ _ _ _ _ _ _).trans hHeld.2.2.1, below_set7 (n := w.heap.size) hHeld.2.2.2 (Nat.le_refl _) _ _ _ _ _ _ _⟩) (fun hHeld => ?_)
  clear hK K
  try simp only [Act.put, sIb, sCz, sCs]
  refine wpAnyH_ready (rs := [3]) (by kernel_rfl) (by simp) ?_
  refine AllReadyH.cons rfl (fun K hK => ?_) (AllReadyH.nil)
  go_simp
  refine hK.out _ _ (kW3_3 hHeld (by omega) (by dsimp only; omega) (by dsimp only; omega) (by dsimp only; omega)) (fun hHeld => ?_)
  clear hK K
  try simp only [Act.put, sIb, sCz, sCs]
  refine wpAnyH_done (by kernel_rfl) ?_ _
  go_wp2_with fail
  exact bodyPost_ret (v := .tuple #[.agg #[.int .i64 0, .int .i64 0, .int .u64 0, .int .u64 0, .int .u64 0, .int .u64 0, .slice none 0 0], .agg #[.bool true, .int .i64 c, .int .i64 d]]) (by simp [results, Tryz.results57, go_sem, u0, u1, u2, u3, u4, u5, u6, u7, u8, u9]) rfl ⟨rfl, hHeld.2.2.2⟩
theorem rone_ok (v : Value) (l : List Int) (k : Int) (o : I6) (w : World) (hB : Bytes w v l) (h8 : 8 ≤ l.length) (h24 : k = 2 → 24 ≤ l.length) (hbig : l.length ≤ 100000) (h : BdOk RAns (l.drop 4) k o) :
    Calls Tryz.prog 57 #[.int .i64 k, v] w fun e w' => (∃ r, e = .returned (.tuple #[.agg #[.int .i64 o.1, .int .i64 o.2.1, .int .u64 (o.2.2.1.1 : Int), .int .u64 (o.2.2.1.2 : Int), .int .u64 (o.2.2.2.1.1 : Int), .int .u64 (o.2.2.2.1.2 : Int), r], .agg #[.bool false, .int .i64 0, .int .i64 0]]) ∧ w'.ownsRow w.heap.size 61 11 r o.2.2.2.2.length (ads o.2.2.2.2)) ∧ Below w.heap.size w w' := by
  have e8 : (l.drop 4).drop 4 = l.drop 8 := by rw [List.drop_drop]
  have e16 : ((l.drop 4).drop 4).drop 8 = l.drop 16 := by rw [List.drop_drop, List.drop_drop]
  have hi := hB.isB_
  rcases h with ⟨rfl, hy, rfl⟩ | ⟨rfl, hw, rfl⟩ | ⟨hk, L, hA, hl, rfl⟩ | ⟨rfl, rfl⟩
  · have ey : (l.drop 4).getD 0 0 = l.getD 4 0 := by simp [List.getD]
    rw [ey] at hy ⊢
    exact (ro_1 v l _ w hB h8 rfl (by omega)).mono (by rintro e w' ⟨rfl, hb⟩; exact ⟨⟨_, rfl, World.ownsRow_nil _ _ _ _⟩, hb⟩)
  · rw [e16, e8] at hw ⊢
    have l24 := h24 rfl
    have g1 := gx8 (l.drop 8) (isB_dropK hi 8) (by rw [List.length_drop]; omega)
    have g2 := gx8 (l.drop 16) (isB_dropK hi 16) (by rw [List.length_drop]; omega)
    rw [g1, g2] at hw ⊢
    exact (ro_2 v l _ _ w hB l24 g1 rfl g2 rfl hw).mono (by rintro e w' ⟨rfl, hb⟩; exact ⟨⟨_, rfl, World.ownsRow_nil _ _ _ _⟩, hb⟩)
  · rw [e8] at hA
    rcases hk with rfl | rfl
    · exact ro_a3 v l L _ w hB h8 (fun v W h => rad_ok v _ L W h (by rw [List.length_drop]; omega) hA hl)
    · exact ro_a4 v l L _ w hB h8 (fun v W h => rad_ok v _ L W h (by rw [List.length_drop]; omega) hA hl)
  · exact (ro_5 v l w hB).mono (by rintro e w' ⟨rfl, hb⟩; exact ⟨⟨_, rfl, World.ownsRow_nil _ _ _ _⟩, hb⟩)
theorem rone_no (v : Value) (l : List Int) (k c d : Int) (w : World) (hB : Bytes w v l) (h8 : 8 ≤ l.length) (h24 : k = 2 → 24 ≤ l.length) (hbig : l.length ≤ 100000) (h : BdNo RAns (l.drop 4) k c d) :
    Calls Tryz.prog 57 #[.int .i64 k, v] w fun e w' => e = .returned (.tuple #[.agg #[.int .i64 0, .int .i64 0, .int .u64 0, .int .u64 0, .int .u64 0, .int .u64 0, .slice none 0 0], .agg #[.bool true, .int .i64 c, .int .i64 d]]) ∧ Below w.heap.size w w' := by
  have e8 : (l.drop 4).drop 4 = l.drop 8 := by rw [List.drop_drop]
  have e16 : ((l.drop 4).drop 4).drop 8 = l.drop 16 := by rw [List.drop_drop, List.drop_drop]
  have hi := hB.isB_
  rcases h with ⟨rfl, hy, rfl, rfl⟩ | ⟨rfl, hw, rfl, rfl⟩ | ⟨hk, rfl, hA⟩
  · have ey : (l.drop 4).getD 0 0 = l.getD 4 0 := by simp [List.getD]
    rw [ey] at hy
    exact ro_1x v l _ w hB h8 rfl (by have := (isB_getD hi 4).2; omega)
  · rw [e16, e8] at hw
    have l24 := h24 rfl
    have g1 := gx8 (l.drop 8) (isB_dropK hi 8) (by rw [List.length_drop]; omega)
    have g2 := gx8 (l.drop 16) (isB_dropK hi 16) (by rw [List.length_drop]; omega)
    rw [g1, g2] at hw
    exact ro_2x v l _ _ w hB l24 g1 rfl g2 rfl hw
  · rw [e8] at hA
    have hP : ∀ (v : Value) (W : World), Bytes W v (l.drop 8) → Calls Tryz.prog 96 #[v] W fun e w' => e = .returned (.tuple #[.slice none 0 0, .agg #[.bool true, .int .i64 2, .int .i64 d]]) ∧ Below W.heap.size W w' := fun v W h => by
      rcases hA with h1 | ⟨rfl, L, h1, h2⟩
      · exact rad_bad v _ d W h (by rw [List.length_drop]; omega) h1
      · exact rad_many v _ L W h (by rw [List.length_drop]; omega) h1 h2
    rcases hk with rfl | rfl
    · exact ro_x3 v l 2 d w hB h8 hP
    · exact ro_x4 v l 2 d w hB h8 hP
end Go.Proofs.YthhijfphfcmniaaGreat
