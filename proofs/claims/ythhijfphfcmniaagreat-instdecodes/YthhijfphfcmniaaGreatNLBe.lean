import Derived.Test.YthhijfphfcmniaaGreatNLAe
import Derived.Test.YthhijfphfcmniaaGreatKNe
import Derived.Deep.RegionHeld3
import Derived.Deep.RegionWith
import Derived.Deep.MidRow
import Derived.Deep.Cut
set_option maxRecDepth 100000
set_option maxHeartbeats 8000000
set_option linter.unusedVariables false
set_option linter.unusedSimpArgs false
namespace Go.Proofs.YthhijfphfcmniaaGreat
section
open Go Go.RowKit
theorem pnlbe0 (w : World) : Hid (AB (((w.alloc (.cells #[.int .i64 0, .int .i64 0, .int .u64 0, .int .u64 0, .int .u64 0, .int .u64 0, .slice none 0 0] 34)).alloc (.cells #[.bool false, .int .i64 0, .int .i64 0] 44)).alloc (.cells #[.int .i64 2, .int .i64 0, .int .u64 0, .int .u64 0, .int .u64 0, .int .u64 0, .slice none 0 0] 34)) w.heap.size 34 [.int .i64 0, .int .i64 0, .int .u64 0, .int .u64 0, .int .u64 0, .int .u64 0, .slice none 0 0]) := h_ (((AB.at0 w 34 [.int .i64 0, .int .i64 0, .int .u64 0, .int .u64 0, .int .u64 0, .int .u64 0, .slice none 0 0]).alloc (.cells #[.bool false, .int .i64 0, .int .i64 0] 44)).alloc (.cells #[.int .i64 2, .int .i64 0, .int .u64 0, .int .u64 0, .int .u64 0, .int .u64 0, .slice none 0 0] 34))
theorem pnlbe1 (w : World) : Hid (AB (((w.alloc (.cells #[.int .i64 0, .int .i64 0, .int .u64 0, .int .u64 0, .int .u64 0, .int .u64 0, .slice none 0 0] 34)).alloc (.cells #[.bool false, .int .i64 0, .int .i64 0] 44)).alloc (.cells #[.int .i64 2, .int .i64 0, .int .u64 0, .int .u64 0, .int .u64 0, .int .u64 0, .slice none 0 0] 34)) (w.heap.size + 1) 44 [.bool false, .int .i64 0, .int .i64 0]) := h_ ((AB.at1 w (.cells #[.int .i64 0, .int .i64 0, .int .u64 0, .int .u64 0, .int .u64 0, .int .u64 0, .slice none 0 0] 34) 44 [.bool false, .int .i64 0, .int .i64 0]).alloc (.cells #[.int .i64 2, .int .i64 0, .int .u64 0, .int .u64 0, .int .u64 0, .int .u64 0, .slice none 0 0] 34))
theorem pnlbe2 (w : World) : Hid (AB (((w.alloc (.cells #[.int .i64 0, .int .i64 0, .int .u64 0, .int .u64 0, .int .u64 0, .int .u64 0, .slice none 0 0] 34)).alloc (.cells #[.bool false, .int .i64 0, .int .i64 0] 44)).alloc (.cells #[.int .i64 2, .int .i64 0, .int .u64 0, .int .u64 0, .int .u64 0, .int .u64 0, .slice none 0 0] 34)) (w.heap.size + 1 + 1) 34 [.int .i64 2, .int .i64 0, .int .u64 0, .int .u64 0, .int .u64 0, .int .u64 0, .slice none 0 0]) := h_ (by have := AB.at0 ((w.alloc (.cells #[.int .i64 0, .int .i64 0, .int .u64 0, .int .u64 0, .int .u64 0, .int .u64 0, .slice none 0 0] 34)).alloc (.cells #[.bool false, .int .i64 0, .int .i64 0] 44)) 34 [.int .i64 2, .int .i64 0, .int .u64 0, .int .u64 0, .int .u64 0, .int .u64 0, .slice none 0 0]; simpa using this)
theorem pnlbe3 (w : World) : Hid (Below w.heap.size w (((w.alloc (.cells #[.int .i64 0, .int .i64 0, .int .u64 0, .int .u64 0, .int .u64 0, .int .u64 0, .slice none 0 0] 34)).alloc (.cells #[.bool false, .int .i64 0, .int .i64 0] 44)).alloc (.cells #[.int .i64 2, .int .i64 0, .int .u64 0, .int .u64 0, .int .u64 0, .int .u64 0, .slice none 0 0] 34))) := h_ ((Below.refl _ _).alloc (Nat.le_refl _) _ |>.alloc (by simp) _ |>.alloc (by simp; omega) _)
end
open Go Go.RowKit
theorem cell_fill7 {w : World} {g : Nat} {p : Addr} (hp : g ≠ p.block) (x0 x1 x2 x3 x4 x5 x6 : Value) : (((((((w.setCell ⟨g, 0, none⟩ (x0)).setCell ⟨g, 1, none⟩ (x1)).setCell ⟨g, 2, none⟩ (x2)).setCell ⟨g, 3, none⟩ (x3)).setCell ⟨g, 4, none⟩ (x4)).setCell ⟨g, 5, none⟩ (x5)).setCell ⟨g, 6, none⟩ (x6)).cell? p = w.cell? p := by
  rw [World.cell?_of_block (w := _) (Below.heap_setCell _ _ _ _ (fun e => hp e.symm)), World.cell?_of_block (w := _) (Below.heap_setCell _ _ _ _ (fun e => hp e.symm)), World.cell?_of_block (w := _) (Below.heap_setCell _ _ _ _ (fun e => hp e.symm)), World.cell?_of_block (w := _) (Below.heap_setCell _ _ _ _ (fun e => hp e.symm)), World.cell?_of_block (w := _) (Below.heap_setCell _ _ _ _ (fun e => hp e.symm)), World.cell?_of_block (w := _) (Below.heap_setCell _ _ _ _ (fun e => hp e.symm)), World.cell?_of_block (w := _) (Below.heap_setCell _ _ _ _ (fun e => hp e.symm))]
theorem rb_x3 (v : Value) (l : List Int) (c d : Int) (w : World) (hB : Bytes w v l) (h4 : 4 ≤ l.length) (hP : ∀ (v : Value) (W : World), Bytes W v (l.drop 4) → Calls Tryz.prog 93 #[v] W fun e w' => e = .returned (.tuple #[.slice none 0 0, .agg #[.bool true, .int .i64 c, .int .i64 d]]) ∧ Below W.heap.size W w') :
    Calls Tryz.prog 53 #[.int .i64 3, v] w fun e w' => e = .returned (.tuple #[.agg #[.int .i64 0, .int .i64 0, .int .u64 0, .int .u64 0, .int .u64 0, .int .u64 0, .slice none 0 0], .agg #[.bool true, .int .i64 c, .int .i64 d]]) ∧ Below w.heap.size w w' := by
  obtain ⟨ao, cap, rfl⟩ := hB.short
  obtain ⟨ao4, -, sl4, b4⟩ := bytes_slice hB 4 h4
  have sl4 : ∀ wx, (Instr.slice 25 (.slice ao l.length cap) (some (.int .i64 4)) none none).run Tryz.prog wx = .ok (.slice ao4 (l.length - 4) (cap - 4)) wx := sl4
  have qd := h_ (fun W (hW : Below w.heap.size w W) => hP _ W (b4.later (w' := W) hW))
  have R0 : Hid (AB (((w.alloc (.cells #[.int .i64 0, .int .i64 0, .int .u64 0, .int .u64 0, .int .u64 0, .int .u64 0, .slice none 0 0] 34)).alloc (.cells #[.bool false, .int .i64 0, .int .i64 0] 44)).alloc (.cells #[.int .i64 3, .int .i64 0, .int .u64 0, .int .u64 0, .int .u64 0, .int .u64 0, .slice none 0 0] 34)) w.heap.size 34 [.int .i64 0, .int .i64 0, .int .u64 0, .int .u64 0, .int .u64 0, .int .u64 0, .slice none 0 0]) := h_ (((AB.at0 w 34 [.int .i64 0, .int .i64 0, .int .u64 0, .int .u64 0, .int .u64 0, .int .u64 0, .slice none 0 0]).alloc (.cells #[.bool false, .int .i64 0, .int .i64 0] 44)).alloc (.cells #[.int .i64 3, .int .i64 0, .int .u64 0, .int .u64 0, .int .u64 0, .int .u64 0, .slice none 0 0] 34))
  have F0 : Hid (AB (((w.alloc (.cells #[.int .i64 0, .int .i64 0, .int .u64 0, .int .u64 0, .int .u64 0, .int .u64 0, .slice none 0 0] 34)).alloc (.cells #[.bool false, .int .i64 0, .int .i64 0] 44)).alloc (.cells #[.int .i64 3, .int .i64 0, .int .u64 0, .int .u64 0, .int .u64 0, .int .u64 0, .slice none 0 0] 34)) (w.heap.size + 1) 44 [.bool false, .int .i64 0, .int .i64 0]) := h_ ((AB.at1 w (.cells #[.int .i64 0, .int .i64 0, .int .u64 0, .int .u64 0, .int .u64 0, .int .u64 0, .slice none 0 0] 34) 44 [.bool false, .int .i64 0, .int .i64 0]).alloc (.cells #[.int .i64 3, .int .i64 0, .int .u64 0, .int .u64 0, .int .u64 0, .int .u64 0, .slice none 0 0] 34))
  have I0 : Hid (AB (((w.alloc (.cells #[.int .i64 0, .int .i64 0, .int .u64 0, .int .u64 0, .int .u64 0, .int .u64 0, .slice none 0 0] 34)).alloc (.cells #[.bool false, .int .i64 0, .int .i64 0] 44)).alloc (.cells #[.int .i64 3, .int .i64 0, .int .u64 0, .int .u64 0, .int .u64 0, .int .u64 0, .slice none 0 0] 34)) (w.heap.size + 1 + 1) 34 [.int .i64 3, .int .i64 0, .int .u64 0, .int .u64 0, .int .u64 0, .int .u64 0, .slice none 0 0]) := h_ (by have := AB.at0 ((w.alloc (.cells #[.int .i64 0, .int .i64 0, .int .u64 0, .int .u64 0, .int .u64 0, .int .u64 0, .slice none 0 0] 34)).alloc (.cells #[.bool false, .int .i64 0, .int .i64 0] 44)) 34 [.int .i64 3, .int .i64 0, .int .u64 0, .int .u64 0, .int .u64 0, .int .u64 0, .slice none 0 0]; simpa using this)
  have k0 : Hid (Below w.heap.size w (((w.alloc (.cells #[.int .i64 0, .int .i64 0, .int .u64 0, .int .u64 0, .int .u64 0, .int .u64 0, .slice none 0 0] 34)).alloc (.cells #[.bool false, .int .i64 0, .int .i64 0] 44)).alloc (.cells #[.int .i64 3, .int .i64 0, .int .u64 0, .int .u64 0, .int .u64 0, .int .u64 0, .slice none 0 0] 34))) := h_ ((Below.refl _ _).alloc (Nat.le_refl _) _ |>.alloc (by simp) _ |>.alloc (by simp; omega) _)
  clear hB h4 b4 hP
  go_enter Tryz.func53, Tryz.ntmps53
  go_upto_region 13 with (go_at_call 93; refine (qd.out _ k0.out).mono ?_; rintro e w1 ⟨rfl, b1⟩; have k1 := h_ (k0.out.trans (b1.mono k0.out.size)); have R1 := h_ (R0.out.later b1); have F1 := h_ (F0.out.later b1); obtain ⟨m0, m1, m2, -⟩ := (AB.at0 w1 44 [.bool true, .int .i64 c, .int .i64 d]).three; clear b1)
  have bj := below1 w1 (.cells #[.bool true, .int .i64 c, .int .i64 d] 44)
  have R6 := h_ (R1.out.later bj)
  have F6 := h_ (F1.out.later bj)
  have k6 : Hid (Below w.heap.size w (w1.alloc (.cells #[.bool true, .int .i64 c, .int .i64 d] 44))) := h_ (k1.out.trans (bj.mono k1.out.size))
  obtain ⟨f0, f1, f2, -⟩ := (AB.at0 w1 44 [.bool true, .int .i64 c, .int .i64 d]).three
  have hgM : w.heap.size + 2 ≤ w1.heap.size := by have := F1.out.lt; omega
  clear bj
  generalize (w1.alloc (.cells #[.bool true, .int .i64 c, .int .i64 d] 44)) = X at *
  generalize w1.heap.size = gM at *
  have RD : AB X.drew w.heap.size 34 [.int .i64 0, .int .i64 0, .int .u64 0, .int .u64 0, .int .u64 0, .int .u64 0, .slice none 0 0] := R6.out
  have FD : AB X.drew (w.heap.size + 1) 44 [.bool false, .int .i64 0, .int .i64 0] := F6.out
  obtain ⟨s0, s1, s2, s3, s4, s5, s6, s7, s8, s9, s10, s11, s12, s13⟩ := RD.k7
  have F7 := FD.far7 (f := w.heap.size) (by omega) (.int .i64 0) (.int .i64 0) (.int .u64 0) (.int .u64 0) (.int .u64 0) (.int .u64 0) (.slice none 0 0)
  obtain ⟨p0, p1, p2, p3, p4, p5⟩ := F7.three
  obtain ⟨u0, u1, u2, u3, u4, u5, u6, -⟩ := ((RD.set7 (.int .i64 0) (.int .i64 0) (.int .u64 0) (.int .u64 0) (.int .u64 0) (.int .u64 0) (.slice none 0 0)).farx3 (f := w.heap.size + 1) (by omega) (.bool true) (.int .i64 c) (.int .i64 d)).k7
  obtain ⟨u7, u8, u9, -⟩ := (F7.set3 (.bool true) (.int .i64 c) (.int .i64 d)).three
  clear RD FD F7
  refine wp_region_held_drew (S := (fun w' => w'.cell? ⟨gM, 0, none⟩ = some (.bool true) ∧ w'.cell? ⟨gM, 1, none⟩ = some (.int .i64 c) ∧ w'.cell? ⟨gM, 2, none⟩ = some (.int .i64 d) ∧ Below w.heap.size w w')) (by kernel_rfl) (⟨f0, f1, f2, k6.out.drew⟩) (fun hHeld => ?_)
  generalize X.drew = DD at *
  refine tR 0 ?_ (some 49) rfl (by kernel_rfl) rfl (by rfl) ?_ (fun _ _ _ h => h) (by assumption) ?_
  rotate_left
  · intro w hSw; (try dsimp only at hSw); go_simp; (try with_reducible rfl)
  simp only [Act.put, sIb, sCz, sCs]
  refine tR 1 ?_ (some 50) rfl (by kernel_rfl) rfl (by rfl) ?_ (fun _ _ _ h => h) (by assumption) ?_
  rotate_left
  · intro w hSw; (try dsimp only at hSw); go_simp; (try with_reducible rfl)
  simp only [Act.put, sIb, sCz, sCs]
  refine wpAnyH_ready (rs := [2]) (by kernel_rfl) (by simp) ?_
  refine AllReadyH.cons rfl (fun K hK => ?_) (AllReadyH.nil)
  go_simp
  refine hK.out _ _ (⟨(cell_fill7 (by dsimp only; omega) _ _ _ _ _ _ _).trans hHeld.1, (cell_fill7 (by dsimp only; omega) _ _ _ _ _ _ _).trans hHeld.2.1, (cell_fill7 (by dsimp only; omega) _ _ _ _ _ _ _).trans hHeld.2.2.1, below_set7 (n := w.heap.size) hHeld.2.2.2 (Nat.le_refl _) _ _ _ _ _ _ _⟩) (fun hHeld => ?_)
  clear hK K
  try simp only [Act.put, sIb, sCz, sCs]
  refine wpAnyH_ready (rs := [3]) (by kernel_rfl) (by simp) ?_
  refine AllReadyH.cons rfl (fun K hK => ?_) (AllReadyH.nil)
  go_simp
  refine hK.out _ _ (kW3_3 hHeld (by omega) (by dsimp only; omega) (by dsimp only; omega) (by dsimp only; omega)) (fun hHeld => ?_)
  clear hK K
  try simp only [Act.put, sIb, sCz, sCs]
  refine wpAnyH_done (by kernel_rfl) ?_ _
  go_wp2_with fail
  exact bodyPost_ret (v := .tuple #[.agg #[.int .i64 0, .int .i64 0, .int .u64 0, .int .u64 0, .int .u64 0, .int .u64 0, .slice none 0 0], .agg #[.bool true, .int .i64 c, .int .i64 d]]) (by simp [results, Tryz.results53, go_sem, u0, u1, u2, u3, u4, u5, u6, u7, u8, u9]) rfl ⟨rfl, hHeld.2.2.2⟩
theorem rb_x4 (v : Value) (l : List Int) (c d : Int) (w : World) (hB : Bytes w v l) (h4 : 4 ≤ l.length) (hP : ∀ (v : Value) (W : World), Bytes W v (l.drop 4) → Calls Tryz.prog 93 #[v] W fun e w' => e = .returned (.tuple #[.slice none 0 0, .agg #[.bool true, .int .i64 c, .int .i64 d]]) ∧ Below W.heap.size W w') :
    Calls Tryz.prog 53 #[.int .i64 4, v] w fun e w' => e = .returned (.tuple #[.agg #[.int .i64 0, .int .i64 0, .int .u64 0, .int .u64 0, .int .u64 0, .int .u64 0, .slice none 0 0], .agg #[.bool true, .int .i64 c, .int .i64 d]]) ∧ Below w.heap.size w w' := by
  obtain ⟨ao, cap, rfl⟩ := hB.short
  obtain ⟨ao4, -, sl4, b4⟩ := bytes_slice hB 4 h4
  have sl4 : ∀ wx, (Instr.slice 25 (.slice ao l.length cap) (some (.int .i64 4)) none none).run Tryz.prog wx = .ok (.slice ao4 (l.length - 4) (cap - 4)) wx := sl4
  have qd := h_ (fun W (hW : Below w.heap.size w W) => hP _ W (b4.later (w' := W) hW))
  have R0 : Hid (AB (((w.alloc (.cells #[.int .i64 0, .int .i64 0, .int .u64 0, .int .u64 0, .int .u64 0, .int .u64 0, .slice none 0 0] 34)).alloc (.cells #[.bool false, .int .i64 0, .int .i64 0] 44)).alloc (.cells #[.int .i64 4, .int .i64 0, .int .u64 0, .int .u64 0, .int .u64 0, .int .u64 0, .slice none 0 0] 34)) w.heap.size 34 [.int .i64 0, .int .i64 0, .int .u64 0, .int .u64 0, .int .u64 0, .int .u64 0, .slice none 0 0]) := h_ (((AB.at0 w 34 [.int .i64 0, .int .i64 0, .int .u64 0, .int .u64 0, .int .u64 0, .int .u64 0, .slice none 0 0]).alloc (.cells #[.bool false, .int .i64 0, .int .i64 0] 44)).alloc (.cells #[.int .i64 4, .int .i64 0, .int .u64 0, .int .u64 0, .int .u64 0, .int .u64 0, .slice none 0 0] 34))
  have F0 : Hid (AB (((w.alloc (.cells #[.int .i64 0, .int .i64 0, .int .u64 0, .int .u64 0, .int .u64 0, .int .u64 0, .slice none 0 0] 34)).alloc (.cells #[.bool false, .int .i64 0, .int .i64 0] 44)).alloc (.cells #[.int .i64 4, .int .i64 0, .int .u64 0, .int .u64 0, .int .u64 0, .int .u64 0, .slice none 0 0] 34)) (w.heap.size + 1) 44 [.bool false, .int .i64 0, .int .i64 0]) := h_ ((AB.at1 w (.cells #[.int .i64 0, .int .i64 0, .int .u64 0, .int .u64 0, .int .u64 0, .int .u64 0, .slice none 0 0] 34) 44 [.bool false, .int .i64 0, .int .i64 0]).alloc (.cells #[.int .i64 4, .int .i64 0, .int .u64 0, .int .u64 0, .int .u64 0, .int .u64 0, .slice none 0 0] 34))
  have I0 : Hid (AB (((w.alloc (.cells #[.int .i64 0, .int .i64 0, .int .u64 0, .int .u64 0, .int .u64 0, .int .u64 0, .slice none 0 0] 34)).alloc (.cells #[.bool false, .int .i64 0, .int .i64 0] 44)).alloc (.cells #[.int .i64 4, .int .i64 0, .int .u64 0, .int .u64 0, .int .u64 0, .int .u64 0, .slice none 0 0] 34)) (w.heap.size + 1 + 1) 34 [.int .i64 4, .int .i64 0, .int .u64 0, .int .u64 0, .int .u64 0, .int .u64 0, .slice none 0 0]) := h_ (by have := AB.at0 ((w.alloc (.cells #[.int .i64 0, .int .i64 0, .int .u64 0, .int .u64 0, .int .u64 0, .int .u64 0, .slice none 0 0] 34)).alloc (.cells #[.bool false, .int .i64 0, .int .i64 0] 44)) 34 [.int .i64 4, .int .i64 0, .int .u64 0, .int .u64 0, .int .u64 0, .int .u64 0, .slice none 0 0]; simpa using this)
  have k0 : Hid (Below w.heap.size w (((w.alloc (.cells #[.int .i64 0, .int .i64 0, .int .u64 0, .int .u64 0, .int .u64 0, .int .u64 0, .slice none 0 0] 34)).alloc (.cells #[.bool false, .int .i64 0, .int .i64 0] 44)).alloc (.cells #[.int .i64 4, .int .i64 0, .int .u64 0, .int .u64 0, .int .u64 0, .int .u64 0, .slice none 0 0] 34))) := h_ ((Below.refl _ _).alloc (Nat.le_refl _) _ |>.alloc (by simp) _ |>.alloc (by simp; omega) _)
  clear hB h4 b4 hP
  go_enter Tryz.func53, Tryz.ntmps53
  go_upto_region 13 with (go_at_call 93; refine (qd.out _ k0.out).mono ?_; rintro e w1 ⟨rfl, b1⟩; have k1 := h_ (k0.out.trans (b1.mono k0.out.size)); have R1 := h_ (R0.out.later b1); have F1 := h_ (F0.out.later b1); obtain ⟨m0, m1, m2, -⟩ := (AB.at0 w1 44 [.bool true, .int .i64 c, .int .i64 d]).three; clear b1)
  have bj := below1 w1 (.cells #[.bool true, .int .i64 c, .int .i64 d] 44)
  have R6 := h_ (R1.out.later bj)
  have F6 := h_ (F1.out.later bj)
  have k6 : Hid (Below w.heap.size w (w1.alloc (.cells #[.bool true, .int .i64 c, .int .i64 d] 44))) := h_ (k1.out.trans (bj.mono k1.out.size))
  obtain ⟨f0, f1, f2, -⟩ := (AB.at0 w1 44 [.bool true, .int .i64 c, .int .i64 d]).three
  have hgM : w.heap.size + 2 ≤ w1.heap.size := by have := F1.out.lt; omega
  clear bj
  generalize (w1.alloc (.cells #[.bool true, .int .i64 c, .int .i64 d] 44)) = X at *
  generalize w1.heap.size = gM at *
  have RD : AB X.drew w.heap.size 34 [.int .i64 0, .int .i64 0, .int .u64 0, .int .u64 0, .int .u64 0, .int .u64 0, .slice none 0 0] := R6.out
  have FD : AB X.drew (w.heap.size + 1) 44 [.bool false, .int .i64 0, .int .i64 0] := F6.out
  obtain ⟨s0, s1, s2, s3, s4, s5, s6, s7, s8, s9, s10, s11, s12, s13⟩ := RD.k7
  have F7 := FD.far7 (f := w.heap.size) (by omega) (.int .i64 0) (.int .i64 0) (.int .u64 0) (.int .u64 0) (.int .u64 0) (.int .u64 0) (.slice none 0 0)
  obtain ⟨p0, p1, p2, p3, p4, p5⟩ := F7.three
  obtain ⟨u0, u1, u2, u3, u4, u5, u6, -⟩ := ((RD.set7 (.int .i64 0) (.int .i64 0) (.int .u64 0) (.int .u64 0) (.int .u64 0) (.int .u64 0) (.slice none 0 0)).farx3 (f := w.heap.size + 1) (by omega) (.bool true) (.int .i64 c) (.int .i64 d)).k7
  obtain ⟨u7, u8, u9, -⟩ := (F7.set3 (.bool true) (.int .i64 c) (.int .i64 d)).three
  clear RD FD F7
  refine wp_region_held_drew (S := (fun w' => w'.cell? ⟨gM, 0, none⟩ = some (.bool true) ∧ w'.cell? ⟨gM, 1, none⟩ = some (.int .i64 c) ∧ w'.cell? ⟨gM, 2, none⟩ = some (.int .i64 d) ∧ Below w.heap.size w w')) (by kernel_rfl) (⟨f0, f1, f2, k6.out.drew⟩) (fun hHeld => ?_)
  generalize X.drew = DD at *
  refine tR 0 ?_ (some 49) rfl (by kernel_rfl) rfl (by rfl) ?_ (fun _ _ _ h => h) (by assumption) ?_
  rotate_left
  · intro w hSw; (try dsimp only at hSw); go_simp; (try with_reducible rfl)
  simp only [Act.put, sIb, sCz, sCs]
  refine tR 1 ?_ (some 50) rfl (by kernel_rfl) rfl (by rfl) ?_ (fun _ _ _ h => h) (by assumption) ?_
  rotate_left
  · intro w hSw; (try dsimp only at hSw); go_simp; (try with_reducible rfl)
  simp only [Act.put, sIb, sCz, sCs]
  refine wpAnyH_ready (rs := [2]) (by kernel_rfl) (by simp) ?_
  refine AllReadyH.cons rfl (fun K hK => ?_) (AllReadyH.nil)
  go_simp
  refine hK.out _ _ (⟨(cell_fill7 (by dsimp only; omega) _ _ _ _ _ _ _).trans hHeld.1, (cell_fill7 (by dsimp only; omega) _ _ _ _ _ _ _).trans hHeld.2.1, (cell_fill7 (by dsimp only; omega) _ _ _ _ _ _ _).trans hHeld.2.2.1, below_set7 (n := w.heap.size) hHeld.2.2.2 (Nat.le_refl _) _ _ _ _ _ _ _⟩) (fun hHeld => ?_)
  clear hK K
  try simp only [Act.put, sIb, sCz, sCs]
  refine wpAnyH_ready (rs := [3]) (by kernel_rfl) (by simp) ?_
  refine AllReadyH.cons rfl (fun K hK => ?_) (AllReadyH.nil)
  go_simp
  refine hK.out _ _ (kW3_3 hHeld (by omega) (by dsimp only; omega) (by dsimp only; omega) (by dsimp only; omega)) (fun hHeld => ?_)
  clear hK K
  try simp only [Act.put, sIb, sCz, sCs]
  refine wpAnyH_done (by kernel_rfl) ?_ _
  go_wp2_with fail
  exact bodyPost_ret (v := .tuple #[.agg #[.int .i64 0, .int .i64 0, .int .u64 0, .int .u64 0, .int .u64 0, .int .u64 0, .slice none 0 0], .agg #[.bool true, .int .i64 c, .int .i64 d]]) (by simp [results, Tryz.results53, go_sem, u0, u1, u2, u3, u4, u5, u6, u7, u8, u9]) rfl ⟨rfl, hHeld.2.2.2⟩
end Go.Proofs.YthhijfphfcmniaaGreat
namespace Go.Proofs.YthhijfphfcmniaaGreat
open Go Go.RowKit
theorem rb_1x (v : Value) (l : List Int) (y c d : Int) (w : World) (hB : Bytes w v l) (h4 : 4 ≤ l.length) (hy : l.getD 0 0 = y)
    (hC : ∀ W, Calls Tryz.prog 46 #[.agg #[.int .i64 1, .int .i64 y, .int .u64 0, .int .u64 0, .int .u64 0, .int .u64 0, .slice none 0 0]] W fun e w' => e = .returned (.agg #[.bool true, .int .i64 c, .int .i64 d]) ∧ Below W.heap.size W w') :
    Calls Tryz.prog 53 #[.int .i64 1, v] w fun e w' => e = .returned (.tuple #[.agg #[.int .i64 0, .int .i64 0, .int .u64 0, .int .u64 0, .int .u64 0, .int .u64 0, .slice none 0 0], .agg #[.bool true, .int .i64 c, .int .i64 d]]) ∧ Below w.heap.size w w' := by
  obtain ⟨ao, cap, rfl⟩ := hB.short
  obtain ⟨ao4, -, sl4, b4⟩ := bytes_slice hB 4 h4
  have sl4 : ∀ wx, (Instr.slice 25 (.slice ao l.length cap) (some (.int .i64 4)) none none).run Tryz.prog wx = .ok (.slice ao4 (l.length - 4) (cap - 4)) wx := sl4
  have qg : Hid (∀ W, Below w.heap.size w W → Calls Tryz.prog 89 #[.slice ao l.length cap, .int .i64 0, .int .i64 1] W fun e w' => ∃ er, e = .returned (.tuple #[.int .i64 y, .int .i64 er]) ∧ Below W.heap.size W w') := h_ (fun W hW => by have := nget1I _ l 0 W (hB.later hW) (by omega) (by omega); rw [hy] at this; exact this)
  have R0 : Hid (AB (((w.alloc (.cells #[.int .i64 0, .int .i64 0, .int .u64 0, .int .u64 0, .int .u64 0, .int .u64 0, .slice none 0 0] 34)).alloc (.cells #[.bool false, .int .i64 0, .int .i64 0] 44)).alloc (.cells #[.int .i64 1, .int .i64 0, .int .u64 0, .int .u64 0, .int .u64 0, .int .u64 0, .slice none 0 0] 34)) w.heap.size 34 [.int .i64 0, .int .i64 0, .int .u64 0, .int .u64 0, .int .u64 0, .int .u64 0, .slice none 0 0]) := h_ (((AB.at0 w 34 [.int .i64 0, .int .i64 0, .int .u64 0, .int .u64 0, .int .u64 0, .int .u64 0, .slice none 0 0]).alloc (.cells #[.bool false, .int .i64 0, .int .i64 0] 44)).alloc (.cells #[.int .i64 1, .int .i64 0, .int .u64 0, .int .u64 0, .int .u64 0, .int .u64 0, .slice none 0 0] 34))
  have F0 : Hid (AB (((w.alloc (.cells #[.int .i64 0, .int .i64 0, .int .u64 0, .int .u64 0, .int .u64 0, .int .u64 0, .slice none 0 0] 34)).alloc (.cells #[.bool false, .int .i64 0, .int .i64 0] 44)).alloc (.cells #[.int .i64 1, .int .i64 0, .int .u64 0, .int .u64 0, .int .u64 0, .int .u64 0, .slice none 0 0] 34)) (w.heap.size + 1) 44 [.bool false, .int .i64 0, .int .i64 0]) := h_ ((AB.at1 w (.cells #[.int .i64 0, .int .i64 0, .int .u64 0, .int .u64 0, .int .u64 0, .int .u64 0, .slice none 0 0] 34) 44 [.bool false, .int .i64 0, .int .i64 0]).alloc (.cells #[.int .i64 1, .int .i64 0, .int .u64 0, .int .u64 0, .int .u64 0, .int .u64 0, .slice none 0 0] 34))
  have I0 : Hid (AB (((w.alloc (.cells #[.int .i64 0, .int .i64 0, .int .u64 0, .int .u64 0, .int .u64 0, .int .u64 0, .slice none 0 0] 34)).alloc (.cells #[.bool false, .int .i64 0, .int .i64 0] 44)).alloc (.cells #[.int .i64 1, .int .i64 0, .int .u64 0, .int .u64 0, .int .u64 0, .int .u64 0, .slice none 0 0] 34)) (w.heap.size + 1 + 1) 34 [.int .i64 1, .int .i64 0, .int .u64 0, .int .u64 0, .int .u64 0, .int .u64 0, .slice none 0 0]) := h_ (by have := AB.at0 ((w.alloc (.cells #[.int .i64 0, .int .i64 0, .int .u64 0, .int .u64 0, .int .u64 0, .int .u64 0, .slice none 0 0] 34)).alloc (.cells #[.bool false, .int .i64 0, .int .i64 0] 44)) 34 [.int .i64 1, .int .i64 0, .int .u64 0, .int .u64 0, .int .u64 0, .int .u64 0, .slice none 0 0]; simpa using this)
  have k0 : Hid (Below w.heap.size w (((w.alloc (.cells #[.int .i64 0, .int .i64 0, .int .u64 0, .int .u64 0, .int .u64 0, .int .u64 0, .slice none 0 0] 34)).alloc (.cells #[.bool false, .int .i64 0, .int .i64 0] 44)).alloc (.cells #[.int .i64 1, .int .i64 0, .int .u64 0, .int .u64 0, .int .u64 0, .int .u64 0, .slice none 0 0] 34))) := h_ ((Below.refl _ _).alloc (Nat.le_refl _) _ |>.alloc (by simp) _ |>.alloc (by simp; omega) _)
  have qc := h_ hC
  clear hB h4 b4 hy hC
  go_enter Tryz.func53, Tryz.ntmps53
  go_upto_region 15 with (go_at_call 89; refine (qg.out _ k0.out).mono ?_; rintro e w1 ⟨er1, rfl, b1⟩; have k1 := h_ (k0.out.trans (b1.mono k0.out.size)); have R1 := h_ (R0.out.later b1); have F1 := h_ (F0.out.later b1); have I1 := h_ (I0.out.later b1); obtain ⟨i0, i1, i2, i3, i4, i5, i6, i7, i8, i9, i10, i11, i12, i13⟩ := I1.out.k7; clear b1)
  have R0 := h_ (R1.out.far (f := w.heap.size + 1 + 1) (o := 1) (.int .i64 y) (by omega))
  have F0 := h_ (F1.out.far (f := w.heap.size + 1 + 1) (o := 1) (.int .i64 y) (by omega))
  have I0 : Hid (AB (w1.setCell ⟨w.heap.size + 1 + 1, 1, none⟩ (.int .i64 y)) (w.heap.size + 1 + 1) 34 [.int .i64 1, .int .i64 y, .int .u64 0, .int .u64 0, .int .u64 0, .int .u64 0, .slice none 0 0]) := h_ (I1.out.set (j := 1) _)
  have k0 := h_ (k1.out.setCell (p := ⟨w.heap.size + 1 + 1, 1, none⟩) (by dsimp only; omega) (.int .i64 y))
  clear i0 i1 i2 i3 i4 i5 i6 i7 i8 i9 i10 i11 i12 i13 R1 F1 I1 k1
  generalize (w1.setCell ⟨w.heap.size + 1 + 1, 1, none⟩ (.int .i64 y)) = X1 at *
  obtain ⟨i0, i1, i2, i3, i4, i5, i6, -⟩ := I0.out.k7
  go_upto_region 17 with (go_at_call 46; refine (qc.out _).mono ?_; rintro e w5 ⟨rfl, b5⟩; have k5 := h_ (k0.out.trans (b5.mono k0.out.size)); have R5 := h_ (R0.out.later b5); have F5 := h_ (F0.out.later b5); obtain ⟨m0, m1, m2, -⟩ := (AB.at0 w5 44 [.bool true, .int .i64 c, .int .i64 d]).three; clear b5)
  have bj := below1 w5 (.cells #[.bool true, .int .i64 c, .int .i64 d] 44)
  have R6 := h_ (R5.out.later bj)
  have F6 := h_ (F5.out.later bj)
  have k6 : Hid (Below w.heap.size w (w5.alloc (.cells #[.bool true, .int .i64 c, .int .i64 d] 44))) := h_ (k5.out.trans (bj.mono k5.out.size))
  obtain ⟨f0, f1, f2, -⟩ := (AB.at0 w5 44 [.bool true, .int .i64 c, .int .i64 d]).three
  have hgM : w.heap.size + 2 ≤ w5.heap.size := by have := F5.out.lt; omega
  clear bj
  generalize (w5.alloc (.cells #[.bool true, .int .i64 c, .int .i64 d] 44)) = X at *
  generalize w5.heap.size = gM at *
  have RD : AB X.drew w.heap.size 34 [.int .i64 0, .int .i64 0, .int .u64 0, .int .u64 0, .int .u64 0, .int .u64 0, .slice none 0 0] := R6.out
  have FD : AB X.drew (w.heap.size + 1) 44 [.bool false, .int .i64 0, .int .i64 0] := F6.out
  obtain ⟨s0, s1, s2, s3, s4, s5, s6, s7, s8, s9, s10, s11, s12, s13⟩ := RD.k7
  have F7 := FD.far7 (f := w.heap.size) (by omega) (.int .i64 0) (.int .i64 0) (.int .u64 0) (.int .u64 0) (.int .u64 0) (.int .u64 0) (.slice none 0 0)
  obtain ⟨p0, p1, p2, p3, p4, p5⟩ := F7.three
  obtain ⟨u0, u1, u2, u3, u4, u5, u6, -⟩ := ((RD.set7 (.int .i64 0) (.int .i64 0) (.int .u64 0) (.int .u64 0) (.int .u64 0) (.int .u64 0) (.slice none 0 0)).farx3 (f := w.heap.size + 1) (by omega) (.bool true) (.int .i64 c) (.int .i64 d)).k7
  obtain ⟨u7, u8, u9, -⟩ := (F7.set3 (.bool true) (.int .i64 c) (.int .i64 d)).three
  clear RD FD F7
  refine wp_region_held_drew (S := (fun w' => w'.cell? ⟨gM, 0, none⟩ = some (.bool true) ∧ w'.cell? ⟨gM, 1, none⟩ = some (.int .i64 c) ∧ w'.cell? ⟨gM, 2, none⟩ = some (.int .i64 d) ∧ Below w.heap.size w w')) (by kernel_rfl) (⟨f0, f1, f2, k6.out.drew⟩) (fun hHeld => ?_)
  generalize X.drew = DD at *
  refine tR 0 ?_ (some 57) rfl (by kernel_rfl) rfl (by rfl) ?_ (fun _ _ _ h => h) (by assumption) ?_
  rotate_left
  · intro w hSw; (try dsimp only at hSw); go_simp; (try with_reducible rfl)
  simp only [Act.put, sIb, sCz, sCs]
  refine tR 1 ?_ (some 58) rfl (by kernel_rfl) rfl (by rfl) ?_ (fun _ _ _ h => h) (by assumption) ?_
  rotate_left
  · intro w hSw; (try dsimp only at hSw); go_simp; (try with_reducible rfl)
  simp only [Act.put, sIb, sCz, sCs]
  refine wpAnyH_ready (rs := [2]) (by kernel_rfl) (by simp) ?_
  refine AllReadyH.cons rfl (fun K hK => ?_) (AllReadyH.nil)
  go_simp
  refine hK.out _ _ (⟨(cell_fill7 (by dsimp only; omega) _ _ _ _ _ _ _).trans hHeld.1, (cell_fill7 (by dsimp only; omega) _ _ _ _ _ _ _).trans hHeld.2.1, (cell_fill7 (by dsimp only; omega) _ _ _ _ _ _ _).trans hHeld.2.2.1, below_set7 (n := w.heap.size) hHeld.2.2.2 (Nat.le_refl _) _ _ _ _ _ _ _⟩) (fun hHeld => ?_)
  clear hK K
  try simp only [Act.put, sIb, sCz, sCs]
  refine wpAnyH_ready (rs := [3]) (by kernel_rfl) (by simp) ?_
  refine AllReadyH.cons rfl (fun K hK => ?_) (AllReadyH.nil)
  go_simp
  refine hK.out _ _ (kW3_3 hHeld (by omega) (by dsimp only; omega) (by dsimp only; omega) (by dsimp only; omega)) (fun hHeld => ?_)
  clear hK K
  try simp only [Act.put, sIb, sCz, sCs]
  refine wpAnyH_done (by kernel_rfl) ?_ _
  go_wp2_with fail
  exact bodyPost_ret (v := .tuple #[.agg #[.int .i64 0, .int .i64 0, .int .u64 0, .int .u64 0, .int .u64 0, .int .u64 0, .slice none 0 0], .agg #[.bool true, .int .i64 c, .int .i64 d]]) (by simp [results, Tryz.results53, go_sem, u0, u1, u2, u3, u4, u5, u6, u7, u8, u9]) rfl ⟨rfl, hHeld.2.2.2⟩
theorem rb_1bad (v : Value) (l : List Int) (w : World) (hB : Bytes w v l) (h4 : 4 ≤ l.length) (hy : 255 ≤ l.getD 0 0) :
    Calls Tryz.prog 53 #[.int .i64 1, v] w fun e w' => e = .returned (.tuple #[.agg #[.int .i64 0, .int .i64 0, .int .u64 0, .int .u64 0, .int .u64 0, .int .u64 0, .slice none 0 0], .agg #[.bool true, .int .i64 3, .int .i64 2]]) ∧ Below w.heap.size w w' :=
  rb_1x v l (l.getD 0 0) 3 2 w hB h4 rfl (fun W => chk_bad 1 (l.getD 0 0) 0 0 0 0 (.slice none 0 0) 2 W (by omega) (by omega) (by omega) (by omega) (.inr (.inl ⟨rfl, .inr hy, rfl⟩)))
end Go.Proofs.YthhijfphfcmniaaGreat
namespace Go.Proofs.YthhijfphfcmniaaGreat
open Go Go.RowKit
theorem rb_2 (v : Value) (l : List Int) (A B C D : Nat) (w : World) (hB : Bytes w v l) (h12 : 12 ≤ l.length)
    (hA : gx (l.drop 4) 8 = A) (hA2 : gy (l.drop 4) 8 = B) (hC : gx ((l.drop 4).drop 8) 8 = C) (hC2 : gy ((l.drop 4).drop 8) 8 = D)
    (hK : ∀ W, Calls Tryz.prog 46 #[.agg #[.int .i64 2, .int .i64 0, .int .u64 (A : Int), .int .u64 (B : Int), .int .u64 (C : Int), .int .u64 (D : Int), .slice none 0 0]] W fun e w' => e = .returned (.agg #[.bool false, .int .i64 0, .int .i64 0]) ∧ Below W.heap.size W w') :
    Calls Tryz.prog 53 #[.int .i64 2, v] w fun e w' => e = .returned (.tuple #[.agg #[.int .i64 2, .int .i64 0, .int .u64 (A : Int), .int .u64 (B : Int), .int .u64 (C : Int), .int .u64 (D : Int), .slice none 0 0], .agg #[.bool false, .int .i64 0, .int .i64 0]]) ∧ Below w.heap.size w w' := by
  obtain ⟨ao, cap, rfl⟩ := hB.short
  obtain ⟨ao4, -, sl4, b4⟩ := bytes_slice hB 4 (by omega)
  have sl4 : ∀ wx, (Instr.slice 25 (.slice ao l.length cap) (some (.int .i64 4)) none none).run Tryz.prog wx = .ok (.slice ao4 (l.length - 4) (cap - 4)) wx := sl4
  have hd : (l.drop 4).length = l.length - 4 := List.length_drop
  rw [← hd] at sl4 b4
  obtain ⟨ao8, -, sl8, b8⟩ := bytes_slice b4 8 (by omega)
  have sl8 : ∀ wx, (Instr.slice 25 (.slice ao4 (l.drop 4).length (cap - 4)) (some (.int .i64 8)) none none).run Tryz.prog wx = .ok (.slice ao8 ((l.drop 4).length - 8) (cap - 4 - 8)) wx := sl8
  have qa : Hid (∀ W, Below w.heap.size w W → Calls Tryz.prog 92 #[.slice ao4 (l.drop 4).length (cap - 4), .int .i64 8] W fun e w' => ∃ zz, e = .returned (.tuple #[.agg #[.int .u64 (A : Int), .int .u64 (B : Int)], .bool zz]) ∧ Below W.heap.size W w') := h_ (fun W hW => (wget_any _ _ 8 W (b4.later (w' := W) hW)).mono (fun e w' h => ⟨gok (l.drop 4) 8, by rw [h.1, hA, hA2], h.2⟩))
  have qb : Hid (∀ W, Below w.heap.size w W → Calls Tryz.prog 92 #[.slice ao8 ((l.drop 4).length - 8) (cap - 4 - 8), .int .i64 8] W fun e w' => ∃ zz, e = .returned (.tuple #[.agg #[.int .u64 (C : Int), .int .u64 (D : Int)], .bool zz]) ∧ Below W.heap.size W w') := h_ (fun W hW => (wget_any _ _ 8 W (b8.later (w' := W) hW)).mono (fun e w' h => ⟨gok ((l.drop 4).drop 8) 8, by rw [h.1, hC, hC2], h.2⟩))
  have R0 := pnlbe0 w
  have F0 := pnlbe1 w
  have I0 := pnlbe2 w
  have k0 := pnlbe3 w
  have qc := h_ hK
  have l8 : 8 ≤ (l.drop 4).length := by omega
  obtain ⟨n4, hn4⟩ : ∃ n, (l.drop 4).length = n := ⟨_, rfl⟩
  rw [hn4] at sl4 sl8 qa qb l8
  obtain ⟨c4, hc4⟩ : ∃ n, cap - 4 = n := ⟨_, rfl⟩
  rw [hc4] at sl8 qa qb
  simp only [hc4] at sl4
  have hm := hmC hB
  clear hB b4 b8 hA hA2 hC hC2 hK hd hn4 hc4
  go_enter Tryz.func53, Tryz.ntmps53
  go_upto_region 8 with (go_at_call 92; refine (qa.out _ k0.out).mono ?_; rintro e w1 ⟨zz, rfl, b1⟩; have kk := h_ (k0.out.trans (b1.mono k0.out.size)); have RR := h_ (R0.out.later b1); have FF := h_ (F0.out.later b1); have II := h_ (I0.out.later b1); obtain ⟨i0, i1, i2, i3, i4, i5, i6, i7, i8, i9, i10, i11, i12, i13⟩ := II.out.k7; clear b1)
  have R0 := h_ ((RR.out.far (f := w.heap.size + 1 + 1) (o := 2) (.int .u64 (A : Int)) (by omega)).far (f := w.heap.size + 1 + 1) (o := 3) (.int .u64 (B : Int)) (by omega))
  have F0 := h_ ((FF.out.far (f := w.heap.size + 1 + 1) (o := 2) (.int .u64 (A : Int)) (by omega)).far (f := w.heap.size + 1 + 1) (o := 3) (.int .u64 (B : Int)) (by omega))
  have I0 : Hid (AB ((w1.setCell ⟨w.heap.size + 1 + 1, 2, none⟩ (.int .u64 (A : Int))).setCell ⟨w.heap.size + 1 + 1, 3, none⟩ (.int .u64 (B : Int))) (w.heap.size + 1 + 1) 34 [.int .i64 2, .int .i64 0, .int .u64 (A : Int), .int .u64 (B : Int), .int .u64 0, .int .u64 0, .slice none 0 0]) := h_ ((II.out.set (j := 2) _).set (j := 3) _)
  have k0 := h_ ((kk.out.setCell (p := ⟨w.heap.size + 1 + 1, 2, none⟩) (by dsimp only; omega) (.int .u64 (A : Int))).setCell (p := ⟨w.heap.size + 1 + 1, 3, none⟩) (by dsimp only; omega) (.int .u64 (B : Int)))
  clear i0 i1 i2 i3 i4 i5 i6 i7 i8 i9 i10 i11 i12 i13 RR FF II kk
  generalize ((w1.setCell ⟨w.heap.size + 1 + 1, 2, none⟩ (.int .u64 (A : Int))).setCell ⟨w.heap.size + 1 + 1, 3, none⟩ (.int .u64 (B : Int))) = X2 at *
  obtain ⟨i0, i1, i2, i3, i4, i5, i6, i7, i8, i9, i10, i11, i12, i13⟩ := I0.out.k7
  go_upto_region 15 with (go_at_call 92; refine (qb.out _ k0.out).mono ?_; rintro e w2 ⟨zz, rfl, b1⟩; have kk := h_ (k0.out.trans (b1.mono k0.out.size)); have RR := h_ (R0.out.later b1); have FF := h_ (F0.out.later b1); have II := h_ (I0.out.later b1); obtain ⟨i0, i1, i2, i3, i4, i5, i6, i7, i8, i9, i10, i11, i12, i13⟩ := II.out.k7; clear b1)
  have R0 := h_ ((RR.out.far (f := w.heap.size + 1 + 1) (o := 4) (.int .u64 (C : Int)) (by omega)).far (f := w.heap.size + 1 + 1) (o := 5) (.int .u64 (D : Int)) (by omega))
  have F0 := h_ ((FF.out.far (f := w.heap.size + 1 + 1) (o := 4) (.int .u64 (C : Int)) (by omega)).far (f := w.heap.size + 1 + 1) (o := 5) (.int .u64 (D : Int)) (by omega))
  have I0 : Hid (AB ((w2.setCell ⟨w.heap.size + 1 + 1, 4, none⟩ (.int .u64 (C : Int))).setCell ⟨w.heap.size + 1 + 1, 5, none⟩ (.int .u64 (D : Int))) (w.heap.size + 1 + 1) 34 [.int .i64 2, .int .i64 0, .int .u64 (A : Int), .int .u64 (B : Int), .int .u64 (C : Int), .int .u64 (D : Int), .slice none 0 0]) := h_ ((II.out.set (j := 4) _).set (j := 5) _)
  have k0 := h_ ((kk.out.setCell (p := ⟨w.heap.size + 1 + 1, 4, none⟩) (by dsimp only; omega) (.int .u64 (C : Int))).setCell (p := ⟨w.heap.size + 1 + 1, 5, none⟩) (by dsimp only; omega) (.int .u64 (D : Int)))
  clear i0 i1 i2 i3 i4 i5 i6 i7 i8 i9 i10 i11 i12 i13 RR FF II kk
  generalize ((w2.setCell ⟨w.heap.size + 1 + 1, 4, none⟩ (.int .u64 (C : Int))).setCell ⟨w.heap.size + 1 + 1, 5, none⟩ (.int .u64 (D : Int))) = X4 at *
  obtain ⟨i0, i1, i2, i3, i4, i5, i6, i7, i8, i9, i10, i11, i12, i13⟩ := I0.out.k7
  go_upto_region 18 with (go_at_call 46; refine (qc.out _).mono ?_; rintro e w5 ⟨rfl, b5⟩; have k5 := h_ (k0.out.trans (b5.mono k0.out.size)); have R5 := h_ (R0.out.later b5); have F5 := h_ (F0.out.later b5); have I5 := h_ (I0.out.later b5); clear b5)
  have b6 := below1 w5 (.cells #[.bool false, .int .i64 0, .int .i64 0] 44)
  have R6 := R5.out.later b6
  have F6 := F5.out.later b6
  have I6_ := I5.out.later b6
  have k6 := k5.out.trans (b6.mono k5.out.size)
  clear b6
  generalize (w5.alloc (.cells #[.bool false, .int .i64 0, .int .i64 0] 44)) = Y at *
  obtain ⟨t0, t1, t2, t3, t4, t5, t6, t7, t8, t9, t10, t11, t12, t13⟩ := I6_.k7
  obtain ⟨s0, s1, s2, s3, s4, s5, s6, s7, s8, s9, s10, s11, s12, s13⟩ := R6.k7
  have F7 := F6.far7 (f := w.heap.size) (by omega) (.int .i64 2) (.int .i64 0) (.int .u64 (A : Int)) (.int .u64 (B : Int)) (.int .u64 (C : Int)) (.int .u64 (D : Int)) (.slice none 0 0)
  obtain ⟨p0, p1, p2, p3, p4, p5⟩ := F7.three
  obtain ⟨u0, u1, u2, u3, u4, u5, u6, -⟩ := ((R6.set7 (.int .i64 2) (.int .i64 0) (.int .u64 (A : Int)) (.int .u64 (B : Int)) (.int .u64 (C : Int)) (.int .u64 (D : Int)) (.slice none 0 0)).farx3 (f := w.heap.size + 1) (by omega) (.bool false) (.int .i64 0) (.int .i64 0)).k7
  obtain ⟨u7, u8, u9, -⟩ := (F7.set3 (.bool false) (.int .i64 0) (.int .i64 0)).three
  have bb := below_set3 (g := w.heap.size + 1) (below_set7 (n := w.heap.size) k6 (Nat.le_refl _) (.int .i64 2) (.int .i64 0) (.int .u64 (A : Int)) (.int .u64 (B : Int)) (.int .u64 (C : Int)) (.int .u64 (D : Int)) (.slice none 0 0)) (by omega) (.bool false) (.int .i64 0) (.int .i64 0)
  go_wp2_with fail
  exact bodyPost_ret (v := .tuple #[.agg #[.int .i64 2, .int .i64 0, .int .u64 (A : Int), .int .u64 (B : Int), .int .u64 (C : Int), .int .u64 (D : Int), .slice none 0 0], .agg #[.bool false, .int .i64 0, .int .i64 0]]) (by simp [results, Tryz.results53, go_sem, u0, u1, u2, u3, u4, u5, u6, u7, u8, u9]) rfl ⟨rfl, bb⟩
theorem rb_2x (v : Value) (l : List Int) (A B C D : Nat) (c d : Int) (w : World) (hB : Bytes w v l) (h12 : 12 ≤ l.length)
    (hA : gx (l.drop 4) 8 = A) (hA2 : gy (l.drop 4) 8 = B) (hC : gx ((l.drop 4).drop 8) 8 = C) (hC2 : gy ((l.drop 4).drop 8) 8 = D)
    (hK : ∀ W, Calls Tryz.prog 46 #[.agg #[.int .i64 2, .int .i64 0, .int .u64 (A : Int), .int .u64 (B : Int), .int .u64 (C : Int), .int .u64 (D : Int), .slice none 0 0]] W fun e w' => e = .returned (.agg #[.bool true, .int .i64 c, .int .i64 d]) ∧ Below W.heap.size W w') :
    Calls Tryz.prog 53 #[.int .i64 2, v] w fun e w' => e = .returned (.tuple #[.agg #[.int .i64 0, .int .i64 0, .int .u64 0, .int .u64 0, .int .u64 0, .int .u64 0, .slice none 0 0], .agg #[.bool true, .int .i64 c, .int .i64 d]]) ∧ Below w.heap.size w w' := by
  obtain ⟨ao, cap, rfl⟩ := hB.short
  obtain ⟨ao4, -, sl4, b4⟩ := bytes_slice hB 4 (by omega)
  have sl4 : ∀ wx, (Instr.slice 25 (.slice ao l.length cap) (some (.int .i64 4)) none none).run Tryz.prog wx = .ok (.slice ao4 (l.length - 4) (cap - 4)) wx := sl4
  have hd : (l.drop 4).length = l.length - 4 := List.length_drop
  rw [← hd] at sl4 b4
  obtain ⟨ao8, -, sl8, b8⟩ := bytes_slice b4 8 (by omega)
  have sl8 : ∀ wx, (Instr.slice 25 (.slice ao4 (l.drop 4).length (cap - 4)) (some (.int .i64 8)) none none).run Tryz.prog wx = .ok (.slice ao8 ((l.drop 4).length - 8) (cap - 4 - 8)) wx := sl8
  have qa : Hid (∀ W, Below w.heap.size w W → Calls Tryz.prog 92 #[.slice ao4 (l.drop 4).length (cap - 4), .int .i64 8] W fun e w' => ∃ zz, e = .returned (.tuple #[.agg #[.int .u64 (A : Int), .int .u64 (B : Int)], .bool zz]) ∧ Below W.heap.size W w') := h_ (fun W hW => (wget_any _ _ 8 W (b4.later (w' := W) hW)).mono (fun e w' h => ⟨gok (l.drop 4) 8, by rw [h.1, hA, hA2], h.2⟩))
  have qb : Hid (∀ W, Below w.heap.size w W → Calls Tryz.prog 92 #[.slice ao8 ((l.drop 4).length - 8) (cap - 4 - 8), .int .i64 8] W fun e w' => ∃ zz, e = .returned (.tuple #[.agg #[.int .u64 (C : Int), .int .u64 (D : Int)], .bool zz]) ∧ Below W.heap.size W w') := h_ (fun W hW => (wget_any _ _ 8 W (b8.later (w' := W) hW)).mono (fun e w' h => ⟨gok ((l.drop 4).drop 8) 8, by rw [h.1, hC, hC2], h.2⟩))
  have R0 := pnlbe0 w
  have F0 := pnlbe1 w
  have I0 := pnlbe2 w
  have k0 := pnlbe3 w
  have qc := h_ hK
  have l8 : 8 ≤ (l.drop 4).length := by omega
  obtain ⟨n4, hn4⟩ : ∃ n, (l.drop 4).length = n := ⟨_, rfl⟩
  rw [hn4] at sl4 sl8 qa qb l8
  obtain ⟨c4, hc4⟩ : ∃ n, cap - 4 = n := ⟨_, rfl⟩
  rw [hc4] at sl8 qa qb
  simp only [hc4] at sl4
  have hm := hmC hB
  clear hB b4 b8 hA hA2 hC hC2 hK hd hn4 hc4
  go_enter Tryz.func53, Tryz.ntmps53
  go_upto_region 8 with (go_at_call 92; refine (qa.out _ k0.out).mono ?_; rintro e w1 ⟨zz, rfl, b1⟩; have kk := h_ (k0.out.trans (b1.mono k0.out.size)); have RR := h_ (R0.out.later b1); have FF := h_ (F0.out.later b1); have II := h_ (I0.out.later b1); obtain ⟨i0, i1, i2, i3, i4, i5, i6, i7, i8, i9, i10, i11, i12, i13⟩ := II.out.k7; clear b1)
  have R0 := h_ ((RR.out.far (f := w.heap.size + 1 + 1) (o := 2) (.int .u64 (A : Int)) (by omega)).far (f := w.heap.size + 1 + 1) (o := 3) (.int .u64 (B : Int)) (by omega))
  have F0 := h_ ((FF.out.far (f := w.heap.size + 1 + 1) (o := 2) (.int .u64 (A : Int)) (by omega)).far (f := w.heap.size + 1 + 1) (o := 3) (.int .u64 (B : Int)) (by omega))
  have I0 : Hid (AB ((w1.setCell ⟨w.heap.size + 1 + 1, 2, none⟩ (.int .u64 (A : Int))).setCell ⟨w.heap.size + 1 + 1, 3, none⟩ (.int .u64 (B : Int))) (w.heap.size + 1 + 1) 34 [.int .i64 2, .int .i64 0, .int .u64 (A : Int), .int .u64 (B : Int), .int .u64 0, .int .u64 0, .slice none 0 0]) := h_ ((II.out.set (j := 2) _).set (j := 3) _)
  have k0 := h_ ((kk.out.setCell (p := ⟨w.heap.size + 1 + 1, 2, none⟩) (by dsimp only; omega) (.int .u64 (A : Int))).setCell (p := ⟨w.heap.size + 1 + 1, 3, none⟩) (by dsimp only; omega) (.int .u64 (B : Int)))
  clear i0 i1 i2 i3 i4 i5 i6 i7 i8 i9 i10 i11 i12 i13 RR FF II kk
  generalize ((w1.setCell ⟨w.heap.size + 1 + 1, 2, none⟩ (.int .u64 (A : Int))).setCell ⟨w.heap.size + 1 + 1, 3, none⟩ (.int .u64 (B : Int))) = X2 at *
  obtain ⟨i0, i1, i2, i3, i4, i5, i6, i7, i8, i9, i10, i11, i12, i13⟩ := I0.out.k7
  go_upto_region 15 with (go_at_call 92; refine (qb.out _ k0.out).mono ?_; rintro e w2 ⟨zz, rfl, b1⟩; have kk := h_ (k0.out.trans (b1.mono k0.out.size)); have RR := h_ (R0.out.later b1); have FF := h_ (F0.out.later b1); have II := h_ (I0.out.later b1); obtain ⟨i0, i1, i2, i3, i4, i5, i6, i7, i8, i9, i10, i11, i12, i13⟩ := II.out.k7; clear b1)
  have R0 := h_ ((RR.out.far (f := w.heap.size + 1 + 1) (o := 4) (.int .u64 (C : Int)) (by omega)).far (f := w.heap.size + 1 + 1) (o := 5) (.int .u64 (D : Int)) (by omega))
  have F0 := h_ ((FF.out.far (f := w.heap.size + 1 + 1) (o := 4) (.int .u64 (C : Int)) (by omega)).far (f := w.heap.size + 1 + 1) (o := 5) (.int .u64 (D : Int)) (by omega))
  have I0 : Hid (AB ((w2.setCell ⟨w.heap.size + 1 + 1, 4, none⟩ (.int .u64 (C : Int))).setCell ⟨w.heap.size + 1 + 1, 5, none⟩ (.int .u64 (D : Int))) (w.heap.size + 1 + 1) 34 [.int .i64 2, .int .i64 0, .int .u64 (A : Int), .int .u64 (B : Int), .int .u64 (C : Int), .int .u64 (D : Int), .slice none 0 0]) := h_ ((II.out.set (j := 4) _).set (j := 5) _)
  have k0 := h_ ((kk.out.setCell (p := ⟨w.heap.size + 1 + 1, 4, none⟩) (by dsimp only; omega) (.int .u64 (C : Int))).setCell (p := ⟨w.heap.size + 1 + 1, 5, none⟩) (by dsimp only; omega) (.int .u64 (D : Int)))
  clear i0 i1 i2 i3 i4 i5 i6 i7 i8 i9 i10 i11 i12 i13 RR FF II kk
  generalize ((w2.setCell ⟨w.heap.size + 1 + 1, 4, none⟩ (.int .u64 (C : Int))).setCell ⟨w.heap.size + 1 + 1, 5, none⟩ (.int .u64 (D : Int))) = X4 at *
  obtain ⟨i0, i1, i2, i3, i4, i5, i6, i7, i8, i9, i10, i11, i12, i13⟩ := I0.out.k7
  go_upto_region 17 with (go_at_call 46; refine (qc.out _).mono ?_; rintro e w5 ⟨rfl, b5⟩; have k5 := h_ (k0.out.trans (b5.mono k0.out.size)); have R5 := h_ (R0.out.later b5); have F5 := h_ (F0.out.later b5); obtain ⟨m0, m1, m2, -⟩ := (AB.at0 w5 44 [.bool true, .int .i64 c, .int .i64 d]).three; clear b5)
  have bj := below1 w5 (.cells #[.bool true, .int .i64 c, .int .i64 d] 44)
  have R6 := h_ (R5.out.later bj)
  have F6 := h_ (F5.out.later bj)
  have k6 : Hid (Below w.heap.size w (w5.alloc (.cells #[.bool true, .int .i64 c, .int .i64 d] 44))) := h_ (k5.out.trans (bj.mono k5.out.size))
  obtain ⟨f0, f1, f2, -⟩ := (AB.at0 w5 44 [.bool true, .int .i64 c, .int .i64 d]).three
  have hgM : w.heap.size + 2 ≤ w5.heap.size := by have := F5.out.lt; omega
  clear bj
  generalize (w5.alloc (.cells #[.bool true, .int .i64 c, .int .i64 d] 44)) = X at *
  generalize w5.heap.size = gM at *
  have RD : AB X.drew w.heap.size 34 [.int .i64 0, .int .i64 0, .int .u64 0, .int .u64 0, .int .u64 0, .int .u64 0, .slice none 0 0] := R6.out
  have FD : AB X.drew (w.heap.size + 1) 44 [.bool false, .int .i64 0, .int .i64 0] := F6.out
  obtain ⟨s0, s1, s2, s3, s4, s5, s6, s7, s8, s9, s10, s11, s12, s13⟩ := RD.k7
  have F7 := FD.far7 (f := w.heap.size) (by omega) (.int .i64 0) (.int .i64 0) (.int .u64 0) (.int .u64 0) (.int .u64 0) (.int .u64 0) (.slice none 0 0)
  obtain ⟨p0, p1, p2, p3, p4, p5⟩ := F7.three
  obtain ⟨u0, u1, u2, u3, u4, u5, u6, -⟩ := ((RD.set7 (.int .i64 0) (.int .i64 0) (.int .u64 0) (.int .u64 0) (.int .u64 0) (.int .u64 0) (.slice none 0 0)).farx3 (f := w.heap.size + 1) (by omega) (.bool true) (.int .i64 c) (.int .i64 d)).k7
  obtain ⟨u7, u8, u9, -⟩ := (F7.set3 (.bool true) (.int .i64 c) (.int .i64 d)).three
  clear RD FD F7
  refine wp_region_held_drew (S := (fun w' => w'.cell? ⟨gM, 0, none⟩ = some (.bool true) ∧ w'.cell? ⟨gM, 1, none⟩ = some (.int .i64 c) ∧ w'.cell? ⟨gM, 2, none⟩ = some (.int .i64 d) ∧ Below w.heap.size w w')) (by kernel_rfl) (⟨f0, f1, f2, k6.out.drew⟩) (fun hHeld => ?_)
  generalize X.drew = DD at *
  refine tR 0 ?_ (some 57) rfl (by kernel_rfl) rfl (by rfl) ?_ (fun _ _ _ h => h) (by assumption) ?_
  rotate_left
  · intro w hSw; (try dsimp only at hSw); go_simp; (try with_reducible rfl)
  simp only [Act.put, sIb, sCz, sCs]
  refine tR 1 ?_ (some 58) rfl (by kernel_rfl) rfl (by rfl) ?_ (fun _ _ _ h => h) (by assumption) ?_
  rotate_left
  · intro w hSw; (try dsimp only at hSw); go_simp; (try with_reducible rfl)
  simp only [Act.put, sIb, sCz, sCs]
  refine wpAnyH_ready (rs := [2]) (by kernel_rfl) (by simp) ?_
  refine AllReadyH.cons rfl (fun K hK => ?_) (AllReadyH.nil)
  go_simp
  refine hK.out _ _ (⟨(cell_fill7 (by dsimp only; omega) _ _ _ _ _ _ _).trans hHeld.1, (cell_fill7 (by dsimp only; omega) _ _ _ _ _ _ _).trans hHeld.2.1, (cell_fill7 (by dsimp only; omega) _ _ _ _ _ _ _).trans hHeld.2.2.1, below_set7 (n := w.heap.size) hHeld.2.2.2 (Nat.le_refl _) _ _ _ _ _ _ _⟩) (fun hHeld => ?_)
  clear hK K
  try simp only [Act.put, sIb, sCz, sCs]
  refine wpAnyH_ready (rs := [3]) (by kernel_rfl) (by simp) ?_
  refine AllReadyH.cons rfl (fun K hK => ?_) (AllReadyH.nil)
  go_simp
  refine hK.out _ _ (kW3_3 hHeld (by omega) (by dsimp only; omega) (by dsimp only; omega) (by dsimp only; omega)) (fun hHeld => ?_)
  clear hK K
  try simp only [Act.put, sIb, sCz, sCs]
  refine wpAnyH_done (by kernel_rfl) ?_ _
  go_wp2_with fail
  exact bodyPost_ret (v := .tuple #[.agg #[.int .i64 0, .int .i64 0, .int .u64 0, .int .u64 0, .int .u64 0, .int .u64 0, .slice none 0 0], .agg #[.bool true, .int .i64 c, .int .i64 d]]) (by simp [results, Tryz.results53, go_sem, u0, u1, u2, u3, u4, u5, u6, u7, u8, u9]) rfl ⟨rfl, hHeld.2.2.2⟩
end Go.Proofs.YthhijfphfcmniaaGreat
namespace Go.Proofs.YthhijfphfcmniaaGreat
open Go Go.RowKit
theorem spb_1 (t : Int) (a b c d : Nat) (u : Value) (w : World) (ht : rightB t 1 = true) :
    Calls Tryz.prog 72 #[.agg #[.int .i64 1, .int .i64 t, .int .u64 (a : Int), .int .u64 (b : Int), .int .u64 (c : Int), .int .u64 (d : Int), u]] w fun e w' => ∃ r, e = .returned r ∧ OwnB w' w.heap.size r (spl t 1 ++ [0, 0, 0]) ∧ Below w.heap.size w w' := by
  have k0 := h_ (below1 w (.cells #[.int .i64 1, .int .i64 t, .int .u64 (a : Int), .int .u64 (b : Int), .int .u64 (c : Int), .int .u64 (d : Int), u] 34))
  have A0 := h_ (AB.at0 w 34 [.int .i64 1, .int .i64 t, .int .u64 (a : Int), .int .u64 (b : Int), .int .u64 (c : Int), .int .u64 (d : Int), u])
  obtain ⟨x0, x1, x2, x3, x4, x5, x6, -⟩ := A0.out.k7
  have q := fun W (hW : Below w.heap.size w W) => (put_ownK (.slice none 0 0) [] t 1 W (Bytes.nil W) (by simp) ht (spl_isB _ _ ht))
  have hsl : (spl t 1).length = 1 := by simp [spl]
  simp only [List.nil_append] at q
  generalize spl t 1 = SL at *
  have HSL := h_ hsl
  have q := h_ q
  obtain ⟨i0, hi0, hz0, hz1, hz2⟩ := info_parts info5
  have HI : Hid (Tryz.prog.info? 5 = some i0 ∧ i0.zero = some (.int .u8 0) ∧ i0.size = 1 ∧ i0.bytes = 1) := ⟨hi0, hz0, hz1, hz2⟩
  clear hi0 hz0 hz1 hz2 hsl ht
  go_enter Tryz.func72, Tryz.ntmps72
  go_wp2_with (first
    | (go_at_call 73; refine (q.out _ k0.out).mono ?_; rintro e w1 ⟨r1, rfl, o1, b1⟩; have H1 := h_ (o1.mono (show w.heap.size + 1 ≤ _ by simp)); have z1 := h_ (show w.heap.size + 1 ≤ w1.heap.size by have := b1.size; simp at this; omega); have k1 := h_ (k0.out.trans (b1.mono k0.out.size)); have A1 := h_ (A0.out.later b1); clear b1 o1)
    | (at_builtin; refine wpList_append_ownB rfl (.tmp 8) (.tmp 9) 25 rfl (w.heap.size + 1) 5 i0 Tryz.underlying25 HI.out.1 HI.out.2.1 HI.out.2.2.1 HI.out.2.2.2 r1 1 (u8s SL) (by simp [Act.eval, Act.put]) (by have := (H1.out.later (below1 w1 (.cells #[.int .u8 0, .int .u8 0, .int .u8 0] 5))).1; rw [HSL.out] at this; exact this) (.slice (some ⟨w1.heap.size, 0, none⟩) 3 3) [0, 0, 0] (by simp [Act.eval, Act.put]) (Bytes.lit w1 [0, 0, 0] 5 (by intro z hz; simp at hz; omega) (by decide)) (by decide) (by have := z1.out; simp; omega) ?_; intro v2 w2 own2 hg2; have h2 : OwnB w2 (w.heap.size + 1) v2 (SL ++ [0, 0, 0]) := (H1.out.later (below1 w1 (.cells #[.int .u8 0, .int .u8 0, .int .u8 0] 5))).grow (by intro z hz; simp at hz; omega) (by rw [HSL.out]; exact own2); have b2 := (H1.out.later (below1 w1 (.cells #[.int .u8 0, .int .u8 0, .int .u8 0] 5))).growB hg2 (Nat.le_refl _) (by have := z1.out; simp; omega); have H2 := h_ h2; have k2 := h_ ((k1.out.trans ((below1 w1 (.cells #[.int .u8 0, .int .u8 0, .int .u8 0] 5)).mono k1.out.size)).trans (b2.mono (Nat.le_succ _))); have A2 := h_ ((A1.out.later (below1 w1 (.cells #[.int .u8 0, .int .u8 0, .int .u8 0] 5))).below b2 (Nat.lt_succ_self _)); obtain ⟨x0, x1, x2, x3, x4, x5, x6, -⟩ := A2.out.k7))
  go_ret
  exact ⟨v2, rfl, H2.out.mono (Nat.le_succ _), k2.out⟩
theorem spb_5 (t : Int) (a b c d : Nat) (u : Value) (w : World) (ht : rightB t 1 = true) :
    Calls Tryz.prog 72 #[.agg #[.int .i64 5, .int .i64 t, .int .u64 (a : Int), .int .u64 (b : Int), .int .u64 (c : Int), .int .u64 (d : Int), u]] w fun e w' => ∃ r, e = .returned r ∧ OwnB w' w.heap.size r (spl t 1 ++ [0, 0, 0]) ∧ Below w.heap.size w w' := by
  have k0 := h_ (below1 w (.cells #[.int .i64 5, .int .i64 t, .int .u64 (a : Int), .int .u64 (b : Int), .int .u64 (c : Int), .int .u64 (d : Int), u] 34))
  have A0 := h_ (AB.at0 w 34 [.int .i64 5, .int .i64 t, .int .u64 (a : Int), .int .u64 (b : Int), .int .u64 (c : Int), .int .u64 (d : Int), u])
  obtain ⟨x0, x1, x2, x3, x4, x5, x6, -⟩ := A0.out.k7
  have q := fun W (hW : Below w.heap.size w W) => (put_ownK (.slice none 0 0) [] t 1 W (Bytes.nil W) (by simp) ht (spl_isB _ _ ht))
  have hsl : (spl t 1).length = 1 := by simp [spl]
  simp only [List.nil_append] at q
  generalize spl t 1 = SL at *
  have HSL := h_ hsl
  have q := h_ q
  obtain ⟨i0, hi0, hz0, hz1, hz2⟩ := info_parts info5
  have HI : Hid (Tryz.prog.info? 5 = some i0 ∧ i0.zero = some (.int .u8 0) ∧ i0.size = 1 ∧ i0.bytes = 1) := ⟨hi0, hz0, hz1, hz2⟩
  clear hi0 hz0 hz1 hz2 hsl ht
  go_enter Tryz.func72, Tryz.ntmps72
  go_wp2_with (first
    | (go_at_call 73; refine (q.out _ k0.out).mono ?_; rintro e w1 ⟨r1, rfl, o1, b1⟩; have H1 := h_ (o1.mono (show w.heap.size + 1 ≤ _ by simp)); have z1 := h_ (show w.heap.size + 1 ≤ w1.heap.size by have := b1.size; simp at this; omega); have k1 := h_ (k0.out.trans (b1.mono k0.out.size)); have A1 := h_ (A0.out.later b1); clear b1 o1)
    | (at_builtin; refine wpList_append_ownB rfl (.tmp 8) (.tmp 9) 25 rfl (w.heap.size + 1) 5 i0 Tryz.underlying25 HI.out.1 HI.out.2.1 HI.out.2.2.1 HI.out.2.2.2 r1 1 (u8s SL) (by simp [Act.eval, Act.put]) (by have := (H1.out.later (below1 w1 (.cells #[.int .u8 0, .int .u8 0, .int .u8 0] 5))).1; rw [HSL.out] at this; exact this) (.slice (some ⟨w1.heap.size, 0, none⟩) 3 3) [0, 0, 0] (by simp [Act.eval, Act.put]) (Bytes.lit w1 [0, 0, 0] 5 (by intro z hz; simp at hz; omega) (by decide)) (by decide) (by have := z1.out; simp; omega) ?_; intro v2 w2 own2 hg2; have h2 : OwnB w2 (w.heap.size + 1) v2 (SL ++ [0, 0, 0]) := (H1.out.later (below1 w1 (.cells #[.int .u8 0, .int .u8 0, .int .u8 0] 5))).grow (by intro z hz; simp at hz; omega) (by rw [HSL.out]; exact own2); have b2 := (H1.out.later (below1 w1 (.cells #[.int .u8 0, .int .u8 0, .int .u8 0] 5))).growB hg2 (Nat.le_refl _) (by have := z1.out; simp; omega); have H2 := h_ h2; have k2 := h_ ((k1.out.trans ((below1 w1 (.cells #[.int .u8 0, .int .u8 0, .int .u8 0] 5)).mono k1.out.size)).trans (b2.mono (Nat.le_succ _))); have A2 := h_ ((A1.out.later (below1 w1 (.cells #[.int .u8 0, .int .u8 0, .int .u8 0] 5))).below b2 (Nat.lt_succ_self _)); obtain ⟨x0, x1, x2, x3, x4, x5, x6, -⟩ := A2.out.k7))
  go_ret
  exact ⟨v2, rfl, H2.out.mono (Nat.le_succ _), k2.out⟩
end Go.Proofs.YthhijfphfcmniaaGreat
namespace Go.Proofs.YthhijfphfcmniaaGreat
open Go Go.RowKit
theorem spb_3 (t : Int) (a b c d : Nat) (u : Value) (B : List Int) (w : World) (ht : rightB t 1 = true) (hB : isB B) (hl : B.length ≤ 100000)
    (hE : ∀ W, Below w.heap.size w W → Calls Tryz.prog 49 #[u] W fun e w' => ∃ r, e = .returned (.tuple #[r, .int .i64 0]) ∧ Bytes w' r B ∧ Below W.heap.size W w') :
    Calls Tryz.prog 72 #[.agg #[.int .i64 3, .int .i64 t, .int .u64 (a : Int), .int .u64 (b : Int), .int .u64 (c : Int), .int .u64 (d : Int), u]] w fun e w' => ∃ r, e = .returned r ∧ OwnB w' w.heap.size r (spl t 1 ++ [0, 0, 0] ++ B) ∧ Below w.heap.size w w' := by
  have k0 := h_ (below1 w (.cells #[.int .i64 3, .int .i64 t, .int .u64 (a : Int), .int .u64 (b : Int), .int .u64 (c : Int), .int .u64 (d : Int), u] 34))
  have A0 := h_ (AB.at0 w 34 [.int .i64 3, .int .i64 t, .int .u64 (a : Int), .int .u64 (b : Int), .int .u64 (c : Int), .int .u64 (d : Int), u])
  obtain ⟨x0, x1, x2, x3, x4, x5, x6, -⟩ := A0.out.k7
  have q := fun W (hW : Below w.heap.size w W) => (put_ownK (.slice none 0 0) [] t 1 W (Bytes.nil W) (by simp) ht (spl_isB _ _ ht))
  have hsl : (spl t 1).length = 1 := by simp [spl]
  simp only [List.nil_append] at q
  generalize spl t 1 = SL at *
  have HSL := h_ hsl
  have q := h_ q
  have qe := h_ hE
  have HBB := h_ hB
  have HBL := h_ hl
  obtain ⟨i0, hi0, hz0, hz1, hz2⟩ := info_parts info5
  have HI : Hid (Tryz.prog.info? 5 = some i0 ∧ i0.zero = some (.int .u8 0) ∧ i0.size = 1 ∧ i0.bytes = 1) := ⟨hi0, hz0, hz1, hz2⟩
  clear hi0 hz0 hz1 hz2 hsl ht hE hB hl
  go_enter Tryz.func72, Tryz.ntmps72
  go_wp2_with (first
    | (go_at_call 73; refine (q.out _ k0.out).mono ?_; rintro e w1 ⟨r1, rfl, o1, b1⟩; have H1 := h_ (o1.mono (show w.heap.size + 1 ≤ _ by simp)); have z1 := h_ (show w.heap.size + 1 ≤ w1.heap.size by have := b1.size; simp at this; omega); have k1 := h_ (k0.out.trans (b1.mono k0.out.size)); have A1 := h_ (A0.out.later b1); clear b1 o1)
    | (go_at_call 49; refine (qe.out _ k2.out).mono ?_; rintro e w3 ⟨r3, rfl, h3, b3⟩; have k3 := h_ (k2.out.trans (b3.mono k2.out.size)); have H3 := h_ h3; have H2 := h_ (H2.out.later b3); have z3 := h_ (show w.heap.size + 1 ≤ w3.heap.size from Nat.le_trans (Nat.le_trans z1.out (Nat.le_trans (Nat.le_succ _) (by have := z2.out; simpa using this))) b3.size); clear b3 h3)
    | (at_builtin; refine wpList_append_ownB rfl (.tmp 8) (.tmp 9) 25 rfl (w.heap.size + 1) 5 i0 Tryz.underlying25 HI.out.1 HI.out.2.1 HI.out.2.2.1 HI.out.2.2.2 r1 1 (u8s SL) (by simp [Act.eval, Act.put]) (by have := (H1.out.later (below1 w1 (.cells #[.int .u8 0, .int .u8 0, .int .u8 0] 5))).1; rw [HSL.out] at this; exact this) (.slice (some ⟨w1.heap.size, 0, none⟩) 3 3) [0, 0, 0] (by simp [Act.eval, Act.put]) (Bytes.lit w1 [0, 0, 0] 5 (by intro z hz; simp at hz; omega) (by decide)) (by decide) (by have := z1.out; simp; omega) ?_; intro v2 w2 own2 hg2; have h2 : OwnB w2 (w.heap.size + 1) v2 (SL ++ [0, 0, 0]) := (H1.out.later (below1 w1 (.cells #[.int .u8 0, .int .u8 0, .int .u8 0] 5))).grow (by intro z hz; simp at hz; omega) (by rw [HSL.out]; exact own2); have b2 := (H1.out.later (below1 w1 (.cells #[.int .u8 0, .int .u8 0, .int .u8 0] 5))).growB hg2 (Nat.le_refl _) (by have := z1.out; simp; omega); have H2 := h_ h2; have k2 := h_ ((k1.out.trans ((below1 w1 (.cells #[.int .u8 0, .int .u8 0, .int .u8 0] 5)).mono k1.out.size)).trans (b2.mono (Nat.le_succ _))); have A2 := h_ ((A1.out.later (below1 w1 (.cells #[.int .u8 0, .int .u8 0, .int .u8 0] 5))).below b2 (Nat.lt_succ_self _)); have z2 := h_ (hg2.size); obtain ⟨x0, x1, x2, x3, x4, x5, x6, -⟩ := A2.out.k7)
    | (at_builtin; refine wpList_append_ownB rfl (.tmp 32) (.tmp 33) 25 rfl (w.heap.size + 1) 5 i0 Tryz.underlying25 HI.out.1 HI.out.2.1 HI.out.2.2.1 HI.out.2.2.2 v2 (SL ++ [0, 0, 0]).length (u8s (SL ++ [0, 0, 0])) (by simp [Act.eval, Act.put]) H2.out.1 r3 B (by simp [Act.eval, Act.put]) H3.out (by rw [List.length_append, HSL.out]; have := HBL.out; simp; omega) z3.out ?_; intro v4 w4 own4 hg4; have H4 := h_ (H2.out.grow HBB.out own4); have k4 := h_ (k3.out.trans ((H2.out.growB hg4 (Nat.le_refl _) z3.out).mono (Nat.le_succ _)))))
  go_ret
  exact ⟨v4, rfl, H4.out.mono (Nat.le_succ _), k4.out⟩
theorem spb_4 (t : Int) (a b c d : Nat) (u : Value) (B : List Int) (w : World) (ht : rightB t 1 = true) (hB : isB B) (hl : B.length ≤ 100000)
    (hE : ∀ W, Below w.heap.size w W → Calls Tryz.prog 49 #[u] W fun e w' => ∃ r, e = .returned (.tuple #[r, .int .i64 0]) ∧ Bytes w' r B ∧ Below W.heap.size W w') :
    Calls Tryz.prog 72 #[.agg #[.int .i64 4, .int .i64 t, .int .u64 (a : Int), .int .u64 (b : Int), .int .u64 (c : Int), .int .u64 (d : Int), u]] w fun e w' => ∃ r, e = .returned r ∧ OwnB w' w.heap.size r (spl t 1 ++ [0, 0, 0] ++ B) ∧ Below w.heap.size w w' := by
  have k0 := h_ (below1 w (.cells #[.int .i64 4, .int .i64 t, .int .u64 (a : Int), .int .u64 (b : Int), .int .u64 (c : Int), .int .u64 (d : Int), u] 34))
  have A0 := h_ (AB.at0 w 34 [.int .i64 4, .int .i64 t, .int .u64 (a : Int), .int .u64 (b : Int), .int .u64 (c : Int), .int .u64 (d : Int), u])
  obtain ⟨x0, x1, x2, x3, x4, x5, x6, -⟩ := A0.out.k7
  have q := fun W (hW : Below w.heap.size w W) => (put_ownK (.slice none 0 0) [] t 1 W (Bytes.nil W) (by simp) ht (spl_isB _ _ ht))
  have hsl : (spl t 1).length = 1 := by simp [spl]
  simp only [List.nil_append] at q
  generalize spl t 1 = SL at *
  have HSL := h_ hsl
  have q := h_ q
  have qe := h_ hE
  have HBB := h_ hB
  have HBL := h_ hl
  obtain ⟨i0, hi0, hz0, hz1, hz2⟩ := info_parts info5
  have HI : Hid (Tryz.prog.info? 5 = some i0 ∧ i0.zero = some (.int .u8 0) ∧ i0.size = 1 ∧ i0.bytes = 1) := ⟨hi0, hz0, hz1, hz2⟩
  clear hi0 hz0 hz1 hz2 hsl ht hE hB hl
  go_enter Tryz.func72, Tryz.ntmps72
  go_wp2_with (first
    | (go_at_call 73; refine (q.out _ k0.out).mono ?_; rintro e w1 ⟨r1, rfl, o1, b1⟩; have H1 := h_ (o1.mono (show w.heap.size + 1 ≤ _ by simp)); have z1 := h_ (show w.heap.size + 1 ≤ w1.heap.size by have := b1.size; simp at this; omega); have k1 := h_ (k0.out.trans (b1.mono k0.out.size)); have A1 := h_ (A0.out.later b1); clear b1 o1)
    | (go_at_call 49; refine (qe.out _ k2.out).mono ?_; rintro e w3 ⟨r3, rfl, h3, b3⟩; have k3 := h_ (k2.out.trans (b3.mono k2.out.size)); have H3 := h_ h3; have H2 := h_ (H2.out.later b3); have z3 := h_ (show w.heap.size + 1 ≤ w3.heap.size from Nat.le_trans (Nat.le_trans z1.out (Nat.le_trans (Nat.le_succ _) (by have := z2.out; simpa using this))) b3.size); clear b3 h3)
    | (at_builtin; refine wpList_append_ownB rfl (.tmp 8) (.tmp 9) 25 rfl (w.heap.size + 1) 5 i0 Tryz.underlying25 HI.out.1 HI.out.2.1 HI.out.2.2.1 HI.out.2.2.2 r1 1 (u8s SL) (by simp [Act.eval, Act.put]) (by have := (H1.out.later (below1 w1 (.cells #[.int .u8 0, .int .u8 0, .int .u8 0] 5))).1; rw [HSL.out] at this; exact this) (.slice (some ⟨w1.heap.size, 0, none⟩) 3 3) [0, 0, 0] (by simp [Act.eval, Act.put]) (Bytes.lit w1 [0, 0, 0] 5 (by intro z hz; simp at hz; omega) (by decide)) (by decide) (by have := z1.out; simp; omega) ?_; intro v2 w2 own2 hg2; have h2 : OwnB w2 (w.heap.size + 1) v2 (SL ++ [0, 0, 0]) := (H1.out.later (below1 w1 (.cells #[.int .u8 0, .int .u8 0, .int .u8 0] 5))).grow (by intro z hz; simp at hz; omega) (by rw [HSL.out]; exact own2); have b2 := (H1.out.later (below1 w1 (.cells #[.int .u8 0, .int .u8 0, .int .u8 0] 5))).growB hg2 (Nat.le_refl _) (by have := z1.out; simp; omega); have H2 := h_ h2; have k2 := h_ ((k1.out.trans ((below1 w1 (.cells #[.int .u8 0, .int .u8 0, .int .u8 0] 5)).mono k1.out.size)).trans (b2.mono (Nat.le_succ _))); have A2 := h_ ((A1.out.later (below1 w1 (.cells #[.int .u8 0, .int .u8 0, .int .u8 0] 5))).below b2 (Nat.lt_succ_self _)); have z2 := h_ (hg2.size); obtain ⟨x0, x1, x2, x3, x4, x5, x6, -⟩ := A2.out.k7)
    | (at_builtin; refine wpList_append_ownB rfl (.tmp 32) (.tmp 33) 25 rfl (w.heap.size + 1) 5 i0 Tryz.underlying25 HI.out.1 HI.out.2.1 HI.out.2.2.1 HI.out.2.2.2 v2 (SL ++ [0, 0, 0]).length (u8s (SL ++ [0, 0, 0])) (by simp [Act.eval, Act.put]) H2.out.1 r3 B (by simp [Act.eval, Act.put]) H3.out (by rw [List.length_append, HSL.out]; have := HBL.out; simp; omega) z3.out ?_; intro v4 w4 own4 hg4; have H4 := h_ (H2.out.grow HBB.out own4); have k4 := h_ (k3.out.trans ((H2.out.growB hg4 (Nat.le_refl _) z3.out).mono (Nat.le_succ _)))))
  go_ret
  exact ⟨v4, rfl, H4.out.mono (Nat.le_succ _), k4.out⟩
end Go.Proofs.YthhijfphfcmniaaGreat
namespace Go.Proofs.YthhijfphfcmniaaGreat
open Go Go.RowKit
theorem ispell_any (k t : Int) (a b c d : Nat) (u : Value) (BODY : List Int) (w : World) (hk : rightB k 2 = true) (hB : isB BODY) (hl : BODY.length ≤ 65000)
    (hS : ∀ W, Below w.heap.size w W → Calls Tryz.prog 72 #[.agg #[.int .i64 k, .int .i64 t, .int .u64 (a : Int), .int .u64 (b : Int), .int .u64 (c : Int), .int .u64 (d : Int), u]] W fun e w' => ∃ r, e = .returned r ∧ Bytes w' r BODY ∧ Below W.heap.size W w') :
    Calls Tryz.prog 35 #[.agg #[.int .i64 k, .int .i64 t, .int .u64 (a : Int), .int .u64 (b : Int), .int .u64 (c : Int), .int .u64 (d : Int), u]] w fun e w' => ∃ r, e = .returned r ∧ OwnB w' w.heap.size r (spl k 2 ++ spl (4 + (BODY.length : Int)) 2 ++ BODY) ∧ Below w.heap.size w w' := by
  have k0 := h_ (below1 w (.cells #[.int .i64 k, .int .i64 t, .int .u64 (a : Int), .int .u64 (b : Int), .int .u64 (c : Int), .int .u64 (d : Int), u] 34))
  have A0 := h_ (AB.at0 w 34 [.int .i64 k, .int .i64 t, .int .u64 (a : Int), .int .u64 (b : Int), .int .u64 (c : Int), .int .u64 (d : Int), u])
  obtain ⟨x0, x1, x2, x3, x4, x5, x6, -⟩ := A0.out.k7
  have hr2 : rightB (4 + (BODY.length : Int)) 2 = true := by simp [rightB, szB, lim]; omega
  have hw : IntKind.i64.wrap (4 + (BODY.length : Int)) = 4 + (BODY.length : Int) := by rw [IntKind.wrap_i64]; omega
  have q1 := fun W => put_ownK (.slice none 0 0) [] k 2 W (Bytes.nil W) (by simp) hk (spl_isB _ _ hk)
  have hsk : (spl k 2).length = 2 := by simp [spl]
  have hsn : (spl (4 + (BODY.length : Int)) 2).length = 2 := by simp [spl]
  have q2 := fun v W (h : Bytes W v (spl k 2)) => put_ownK v (spl k 2) (4 + (BODY.length : Int)) 2 W h (by omega) hr2 (spl_isB _ _ hr2)
  simp only [List.nil_append] at q1
  obtain ⟨nB, hnB⟩ : ∃ n, BODY.length = n := ⟨_, rfl⟩
  rw [hnB] at hw hsn q2 hl ⊢
  generalize spl k 2 = SK at *
  generalize spl (4 + (nB : Int)) 2 = SN at *
  obtain ⟨zn, hzn⟩ : ∃ z : Int, 4 + (nB : Int) = z := ⟨_, rfl⟩
  rw [hzn] at q2
  have hw2 : IntKind.i64.wrap (4 + (nB : Int)) = zn := by rw [IntKind.wrap_i64]; omega
  have HSK := h_ hsk
  have HSN := h_ hsn
  have q1 := h_ q1
  have q2 := h_ q2
  have qs := h_ hS
  have HBB := h_ hB
  have HBL := h_ (show BODY.length ≤ 65000 by omega)
  have HBN := h_ hnB
  have hn63 : nB ≤ 65000 := hl
  obtain ⟨i0, hi0, hz0, hz1, hz2⟩ := info_parts info5
  have HI : Hid (Tryz.prog.info? 5 = some i0 ∧ i0.zero = some (.int .u8 0) ∧ i0.size = 1 ∧ i0.bytes = 1) := ⟨hi0, hz0, hz1, hz2⟩
  clear hi0 hz0 hz1 hz2 hsk hsn hS hB hl hk hr2 hnB hw hzn
  go_enter Tryz.func35, Tryz.ntmps35
  go_wp2_with (first | (go_at_call 73; refine (q2.out _ _ H3.out.bytes).mono ?_; rintro e w4 ⟨r4, rfl, o4, b4⟩; have H4 := h_ (o4.mono z3.out); have HS4 := h_ (HS3.out.later b4); have k4 := h_ (k3.out.trans (b4.mono k3.out.size)); have z4 := h_ (Nat.le_trans z3.out b4.size); clear b4 o4) | (go_at_call 73; refine (q1.out _).mono ?_; rintro e w3 ⟨r3, rfl, o3, b3⟩; have H3 := h_ (o3.mono z2.out); have HS3 := h_ (HS.out.later b3); have k3 := h_ (k2.out.trans (b3.mono k2.out.size)); have z3 := h_ (Nat.le_trans z2.out b3.size); clear b3 o3) | (go_at_call 72; refine (qs.out _ k0.out).mono ?_; rintro e w2 ⟨r2, rfl, o2, b2⟩; obtain ⟨s2, c2, rfl⟩ := o2.short; rw [HBN.out] at *; have HS := h_ o2; have k2 := h_ (k0.out.trans (b2.mono k0.out.size)); have z2 := h_ (show w.heap.size + 1 ≤ w2.heap.size by have := b2.size; simp at this; omega); have A2 := h_ (A0.out.later b2); obtain ⟨x0, x1, x2, x3, x4, x5, x6, -⟩ := A2.out.k7; clear b2 o2) | (at_builtin; refine wpList_append_ownB rfl (.tmp 15) (.tmp 16) 25 rfl (w.heap.size + 1) 5 i0 Tryz.underlying25 HI.out.1 HI.out.2.1 HI.out.2.2.1 HI.out.2.2.2 r4 (SK ++ SN).length (u8s (SK ++ SN)) (by simp [Act.eval, Act.put]) H4.out.1 (.slice s2 nB c2) BODY (by simp [Act.eval, Act.put]) HS4.out (by rw [List.length_append, HSK.out, HSN.out]; have := HBL.out; simp; omega) z4.out ?_; intro v5 w5 own5 hg5; have H5 := h_ (H4.out.grow HBB.out own5); have k5 := h_ (k4.out.trans ((H4.out.growB hg5 (Nat.le_refl _) z4.out).mono (Nat.le_succ _)))))
  go_ret
  exact ⟨v5, rfl, H5.out.mono (Nat.le_succ _), k5.out⟩
end Go.Proofs.YthhijfphfcmniaaGreat
namespace Go.Proofs.YthhijfphfcmniaaGreat
open Go Go.RowKit
theorem spb_2 (t : Int) (a b c d : Nat) (u : Value) (w : World) (ht : rightB t 1 = true) (ha : a < 18446744073709551616) (hb : b < 18446744073709551616) (hc : c < 18446744073709551616) (hd : d < 18446744073709551616) :
    Calls Tryz.prog 72 #[.agg #[.int .i64 2, .int .i64 t, .int .u64 (a : Int), .int .u64 (b : Int), .int .u64 (c : Int), .int .u64 (d : Int), u]] w fun e w' => ∃ r, e = .returned r ∧ Bytes w' r (spl t 1 ++ [0, 0, 0] ++ wtail a b 8 ++ wtail c d 8) ∧ Below w.heap.size w w' := by
  have k0 := h_ (below1 w (.cells #[.int .i64 2, .int .i64 t, .int .u64 (a : Int), .int .u64 (b : Int), .int .u64 (c : Int), .int .u64 (d : Int), u] 34))
  have A0 := h_ (AB.at0 w 34 [.int .i64 2, .int .i64 t, .int .u64 (a : Int), .int .u64 (b : Int), .int .u64 (c : Int), .int .u64 (d : Int), u])
  obtain ⟨x0, x1, x2, x3, x4, x5, x6, -⟩ := A0.out.k7
  have q := fun W (hW : Below w.heap.size w W) => (put_ownK (.slice none 0 0) [] t 1 W (Bytes.nil W) (by simp) ht (spl_isB _ _ ht))
  have hsl : (spl t 1).length = 1 := by simp [spl]
  simp only [List.nil_append] at q
  generalize spl t 1 = SL at *
  have hwl : (SL ++ [0, 0, 0] ++ wtail a b 8).length ≤ 100000000000000 := by
    have : (wtail a b 8).length ≤ 16 := by rw [wtail_length]; have := cl_le 8 16; omega
    simp only [List.length_append, hsl]; simp; omega
  have qw1 := h_ (fun v W (h : Bytes W v (SL ++ [0, 0, 0])) => wput_any v _ a b 8 W h (by simp [hsl]) ha hb)
  have qw2 := h_ (fun v W (h : Bytes W v (SL ++ [0, 0, 0] ++ wtail a b 8)) => wput_any v _ c d 8 W h hwl hc hd)
  have HSL := h_ hsl
  have q := h_ q
  obtain ⟨i0, hi0, hz0, hz1, hz2⟩ := info_parts info5
  have HI : Hid (Tryz.prog.info? 5 = some i0 ∧ i0.zero = some (.int .u8 0) ∧ i0.size = 1 ∧ i0.bytes = 1) := ⟨hi0, hz0, hz1, hz2⟩
  clear hi0 hz0 hz1 hz2 hsl ht hwl ha hb hc hd
  unfold wd at qw1 qw2
  go_enter Tryz.func72, Tryz.ntmps72
  go_wp2_with (first
    | (go_at_call 73; refine (q.out _ k0.out).mono ?_; rintro e w1 ⟨r1, rfl, o1, b1⟩; have H1 := h_ (o1.mono (show w.heap.size + 1 ≤ _ by simp)); have z1 := h_ (show w.heap.size + 1 ≤ w1.heap.size by have := b1.size; simp at this; omega); have k1 := h_ (k0.out.trans (b1.mono k0.out.size)); have A1 := h_ (A0.out.later b1); clear b1 o1)
    | (go_at_call 107; refine (qw2.out _ _ H3.out).mono ?_; rintro e w4 ⟨r4, rfl, h4, b4⟩; have k4 := h_ (k3.out.trans (b4.mono k3.out.size)); have H4 := h_ h4; have A4 := h_ (A3.out.later b4); obtain ⟨x0, x1, x2, x3, x4, x5, x6, -⟩ := A4.out.k7; clear b4 h4)
    | (go_at_call 107; refine (qw1.out _ _ H2.out.bytes).mono ?_; rintro e w3 ⟨r3, rfl, h3, b3⟩; have k3 := h_ (k2.out.trans (b3.mono k2.out.size)); have H3 := h_ h3; have A3 := h_ (A2.out.later b3); obtain ⟨x0, x1, x2, x3, x4, x5, x6, -⟩ := A3.out.k7; clear b3 h3)
    | (at_builtin; refine wpList_append_ownB rfl (.tmp 8) (.tmp 9) 25 rfl (w.heap.size + 1) 5 i0 Tryz.underlying25 HI.out.1 HI.out.2.1 HI.out.2.2.1 HI.out.2.2.2 r1 1 (u8s SL) (by simp [Act.eval, Act.put]) (by have := (H1.out.later (below1 w1 (.cells #[.int .u8 0, .int .u8 0, .int .u8 0] 5))).1; rw [HSL.out] at this; exact this) (.slice (some ⟨w1.heap.size, 0, none⟩) 3 3) [0, 0, 0] (by simp [Act.eval, Act.put]) (Bytes.lit w1 [0, 0, 0] 5 (by intro z hz; simp at hz; omega) (by decide)) (by decide) (by have := z1.out; simp; omega) ?_; intro v2 w2 own2 hg2; have h2 : OwnB w2 (w.heap.size + 1) v2 (SL ++ [0, 0, 0]) := (H1.out.later (below1 w1 (.cells #[.int .u8 0, .int .u8 0, .int .u8 0] 5))).grow (by intro z hz; simp at hz; omega) (by rw [HSL.out]; exact own2); have b2 := (H1.out.later (below1 w1 (.cells #[.int .u8 0, .int .u8 0, .int .u8 0] 5))).growB hg2 (Nat.le_refl _) (by have := z1.out; simp; omega); have H2 := h_ h2; have k2 := h_ ((k1.out.trans ((below1 w1 (.cells #[.int .u8 0, .int .u8 0, .int .u8 0] 5)).mono k1.out.size)).trans (b2.mono (Nat.le_succ _))); have A2 := h_ ((A1.out.later (below1 w1 (.cells #[.int .u8 0, .int .u8 0, .int .u8 0] 5))).below b2 (Nat.lt_succ_self _)); obtain ⟨x0, x1, x2, x3, x4, x5, x6, -⟩ := A2.out.k7))
  go_ret
  exact ⟨r4, rfl, H4.out, k4.out⟩
end Go.Proofs.YthhijfphfcmniaaGreat
namespace Go.Proofs.YthhijfphfcmniaaGreat
open Go Go.RowKit
def LW64 : Nat × Nat := (lowb (cl 64 128 - 64), lowb (min (cl 64 128) 64))
def ownI (x : I6) : I6 := if x.1 = 1 then (x.1, x.2.1, (0, 0), (0, 0), []) else if x.1 = 2 then (2, 0, x.2.2.1, x.2.2.2.1, []) else if x.1 = 3 ∨ x.1 = 4 then (x.1, 0, (0, 0), (0, 0), x.2.2.2.2) else (x.1, 0, (0, 0), (0, 0), [])
def chkI (x : I6) : Bool := isK x.1 && ((!decide (x.1 = 1) || (decide (0 ≤ x.2.1) && decide (x.2.1 < 255))) && (!decide (x.1 = 2) || wi x.2.2.1.1 x.2.2.1.2 x.2.2.2.1.1 x.2.2.2.1.2))
def mskI (x : I6) : Bool := wi x.2.2.2.1.1 x.2.2.2.1.2 LW64.1 LW64.2
def aOk (L : List A11) : Bool := decide (L.length ≤ 100) && L.all artO
def iR (x : I6) : Bool := sameI x (ownI x) && (chkI x && (mskI x && aOk x.2.2.2.2))
def IFit (x : I6) : Prop := x.2.2.1.1 < 18446744073709551616 ∧ x.2.2.1.2 < 18446744073709551616 ∧ x.2.2.2.1.1 < 18446744073709551616 ∧ x.2.2.2.1.2 < 18446744073709551616 ∧ AFit x.2.2.2.2
theorem ActAt.nilI (w : World) : ActAt w (.slice none 0 0) [] := ⟨none, 0, rfl, Nat.le_refl _, Nat.zero_le _, fun _ => rfl, fun i o h => by simp at h⟩
theorem fld0 (z : Bool) (y x : Int) (wx : World) : (Instr.field 44 (.agg #[.bool z, .int .i64 y, .int .i64 x]) 0).run Tryz.prog wx = .ok (.bool z) wx := by kernel_rfl
theorem low64_any (w : World) : Calls Tryz.prog 48 #[.int .i64 64] w fun e w' => e = .returned (wd LW64.1 LW64.2) ∧ Below w.heap.size w w' := low_any 64 w
theorem iown_any (k t : Int) (a b c d : Nat) (u : Value) (L : List A11) (w : World) (hL : ActAt w u L) (k2 t2 : Int) (a2 b2 c2 d2 : Nat) (K : List A11) (h : ownI (k, t, (a, b), (c, d), L) = (k2, t2, (a2, b2), (c2, d2), K)) :
    Calls Tryz.prog 45 #[.agg #[.int .i64 k, .int .i64 t, .int .u64 (a : Int), .int .u64 (b : Int), .int .u64 (c : Int), .int .u64 (d : Int), u]] w fun e w' => ∃ u2, e = .returned (.agg #[.int .i64 k2, .int .i64 t2, .int .u64 (a2 : Int), .int .u64 (b2 : Int), .int .u64 (c2 : Int), .int .u64 (d2 : Int), u2]) ∧ ActAt w' u2 K ∧ Below w.heap.size w w' := by
  unfold ownI at h
  dsimp only at h
  by_cases h1 : k = 1
  · rw [if_pos h1] at h
    cases h
    exact (own_1 k t a b c d u w h1).mono (by rintro e w' ⟨rfl, hb⟩; exact ⟨_, rfl, ActAt.nilI _, hb⟩)
  · rw [if_neg h1] at h
    by_cases h2 : k = 2
    · rw [if_pos h2] at h
      cases h
      exact (own_2 k t a b c d u w h2).mono (by rintro e w' ⟨rfl, hb⟩; exact ⟨_, rfl, ActAt.nilI _, hb⟩)
    · rw [if_neg h2] at h
      by_cases h3 : k = 3 ∨ k = 4
      · rw [if_pos h3] at h
        cases h
        obtain ⟨s, cap, hu, -⟩ := id hL
        exact (own_34 k t a b c d u w s _ cap hu h3).mono (by rintro e w' ⟨rfl, hb⟩; exact ⟨_, rfl, hL.later hb, hb⟩)
      · rw [if_neg h3] at h
        cases h
        exact (own_no k t a b c d u w h1 h2 (fun e => h3 (.inl e)) (fun e => h3 (.inr e))).mono (by rintro e w' ⟨rfl, hb⟩; exact ⟨_, rfl, ActAt.nilI _, hb⟩)
theorem ichk_any (k t : Int) (a b c d : Nat) (u : Value) (L : List A11) (w : World) (ha : a < 18446744073709551616) (hb : b < 18446744073709551616) (hc' : c < 18446744073709551616) (hd : d < 18446744073709551616) :
    Calls Tryz.prog 46 #[.agg #[.int .i64 k, .int .i64 t, .int .u64 (a : Int), .int .u64 (b : Int), .int .u64 (c : Int), .int .u64 (d : Int), u]] w fun e w' => ∃ y z, e = .returned (.agg #[.bool (!chkI (k, t, (a, b), (c, d), L)), .int .i64 y, .int .i64 z]) ∧ Below w.heap.size w w' := by
  have bad : ∀ cd : Int, ((isK k = false ∧ cd = 0) ∨ (k = 1 ∧ (t < 0 ∨ 255 ≤ t) ∧ cd = 2) ∨ (k = 2 ∧ wi a b c d = false ∧ cd = 4)) → chkI (k, t, (a, b), (c, d), L) = false → Calls Tryz.prog 46 #[.agg #[.int .i64 k, .int .i64 t, .int .u64 (a : Int), .int .u64 (b : Int), .int .u64 (c : Int), .int .u64 (d : Int), u]] w fun e w' => ∃ y z, e = .returned (.agg #[.bool (!chkI (k, t, (a, b), (c, d), L)), .int .i64 y, .int .i64 z]) ∧ Below w.heap.size w w' := fun cd h hc => by
    rw [hc]
    exact (chk_bad k t a b c d u cd w ha hb hc' hd h).mono (by rintro e w' ⟨rfl, hb⟩; exact ⟨_, _, rfl, hb⟩)
  by_cases hk : isK k = true
  · by_cases h1 : k = 1
    · by_cases ht : 0 ≤ t ∧ t < 255
      · have e : chkI (k, t, (a, b), (c, d), L) = true := by unfold chkI; dsimp only; rw [hk]; simp [h1, ht]
        rw [e]
        exact (chk_ok k t a b c d u w ha hb hc' hd hk (fun _ => ht) (fun h => by omega)).mono (by rintro e w' ⟨rfl, hb⟩; exact ⟨_, _, rfl, hb⟩)
      · exact bad 2 (.inr (.inl ⟨h1, by omega, rfl⟩)) (by unfold chkI; dsimp only; simp [h1]; omega)
    · by_cases h2 : k = 2
      · by_cases hw : wi a b c d = true
        · have e : chkI (k, t, (a, b), (c, d), L) = true := by unfold chkI; dsimp only; rw [hk, hw]; simp [h1, h2]
          rw [e]
          exact (chk_ok k t a b c d u w ha hb hc' hd hk (fun h => absurd h h1) (fun _ => hw)).mono (by rintro e w' ⟨rfl, hb⟩; exact ⟨_, _, rfl, hb⟩)
        · have hw : wi a b c d = false := by simpa using hw
          exact bad 4 (.inr (.inr ⟨h2, hw, rfl⟩)) (by unfold chkI; dsimp only; simp [h2, hw])
      · have e : chkI (k, t, (a, b), (c, d), L) = true := by unfold chkI; dsimp only; rw [hk]; simp [h1, h2]
        rw [e]
        exact (chk_ok k t a b c d u w ha hb hc' hd hk (fun h => absurd h h1) (fun h => absurd h h2)).mono (by rintro e w' ⟨rfl, hb⟩; exact ⟨_, _, rfl, hb⟩)
  · have hk : isK k = false := by simpa using hk
    exact bad 0 (.inl ⟨hk, rfl⟩) (by unfold chkI; dsimp only; rw [hk]; rfl)
theorem irig_A (k t : Int) (a b c d : Nat) (u : Value) (w : World) (k2 t2 : Int) (a2 b2 c2 d2 : Nat) (K : List A11) (z3 z4 : Bool) (er : Int)
    (q1 : Hid (∀ W, Below w.heap.size w W → Calls Tryz.prog 45 #[.agg #[.int .i64 k, .int .i64 t, .int .u64 (a : Int), .int .u64 (b : Int), .int .u64 (c : Int), .int .u64 (d : Int), u]] W fun e w' => ∃ u2, e = .returned (.agg #[.int .i64 k2, .int .i64 t2, .int .u64 (a2 : Int), .int .u64 (b2 : Int), .int .u64 (c2 : Int), .int .u64 (d2 : Int), u2]) ∧ ActAt w' u2 K ∧ Below W.heap.size W w'))
    (q2 : Hid (∀ u2 W, Below w.heap.size w W → ActAt W u2 K → Calls Tryz.prog 44 #[.agg #[.int .i64 k, .int .i64 t, .int .u64 (a : Int), .int .u64 (b : Int), .int .u64 (c : Int), .int .u64 (d : Int), u], .agg #[.int .i64 k2, .int .i64 t2, .int .u64 (a2 : Int), .int .u64 (b2 : Int), .int .u64 (c2 : Int), .int .u64 (d2 : Int), u2]] W fun e w' => e = .returned (.bool false) ∧ Below W.heap.size W w'))
    (q3 : Hid (∀ W, Calls Tryz.prog 46 #[.agg #[.int .i64 k, .int .i64 t, .int .u64 (a : Int), .int .u64 (b : Int), .int .u64 (c : Int), .int .u64 (d : Int), u]] W fun e w' => ∃ y z, e = .returned (.agg #[.bool z3, .int .i64 y, .int .i64 z]) ∧ Below W.heap.size W w'))
    (q4 : Hid (∀ W, Calls Tryz.prog 47 #[wd c d, wd LW64.1 LW64.2] W fun e w' => e = .returned (.bool z4) ∧ Below W.heap.size W w'))
    (q5 : Hid (∀ W, Below w.heap.size w W → Calls Tryz.prog 49 #[u] W fun e w' => ∃ r, e = .returned (.tuple #[r, .int .i64 er]) ∧ Below W.heap.size W w')) :
    Calls Tryz.prog 19 #[.agg #[.int .i64 k, .int .i64 t, .int .u64 (a : Int), .int .u64 (b : Int), .int .u64 (c : Int), .int .u64 (d : Int), u]] w fun e w' => e = .returned (.bool false) ∧ Below w.heap.size w w' := by
  have B0 := h_ (below1 w (.cells #[.int .i64 k, .int .i64 t, .int .u64 (a : Int), .int .u64 (b : Int), .int .u64 (c : Int), .int .u64 (d : Int), u] 34))
  have A0 := h_ (AB.at0 w 34 [.int .i64 k, .int .i64 t, .int .u64 (a : Int), .int .u64 (b : Int), .int .u64 (c : Int), .int .u64 (d : Int), u])
  go_enter Tryz.func19, Tryz.ntmps19
  go_upto_region 1 with fail
  obtain ⟨x0, x1, x2, x3, x4, x5, x6, -⟩ := A0.out.k7
  generalize w.alloc (.cells #[.int .i64 k, .int .i64 t, .int .u64 (a : Int), .int .u64 (b : Int), .int .u64 (c : Int), .int .u64 (d : Int), u] 34) = w1 at *
  refine wp_region_held_drew (S := (fun w' => Below w1.heap.size w1 w')) (by kernel_rfl) ((Below.refl _ _).drew) (fun hHeld => ?_)
  have kb0 : Below w1.heap.size w1 w1.drew := (Below.refl _ _).drew
  generalize w1.drew = D0 at *
  refine tR 0 ?_ (some 5) rfl (by kernel_rfl) rfl (by rfl) ?_ (fun _ _ _ h => h) (by assumption) ?_
  rotate_left
  · intro w hSw; (try dsimp only at hSw); have hc0 := cell_later hSw x0; have hc1 := cell_later hSw x1; have hc2 := cell_later hSw x2; have hc3 := cell_later hSw x3; have hc4 := cell_later hSw x4; have hc5 := cell_later hSw x5; have hc6 := cell_later hSw x6; go_simp; (try with_reducible rfl)
  simp only [Act.put, sIb, sCz, sCs]
  refine tR 1 ?_ (some 6) rfl (by kernel_rfl) rfl (by rfl) ?_ (fun _ _ _ h => h) (by assumption) ?_
  rotate_left
  · intro w hSw; (try dsimp only at hSw); have hc0 := cell_later hSw x0; have hc1 := cell_later hSw x1; have hc2 := cell_later hSw x2; have hc3 := cell_later hSw x3; have hc4 := cell_later hSw x4; have hc5 := cell_later hSw x5; have hc6 := cell_later hSw x6; go_simp; (try with_reducible rfl)
  simp only [Act.put, sIb, sCz, sCs]
  refine wpAnyH_ready (rs := [2]) (by kernel_rfl) (by simp) ?_
  refine AllReadyH.cons rfl (fun K hK => ?_) (AllReadyH.nil)
  go_simp
  go_at_call 45
  refine (q1.out _ (B0.out.trans ((kb0).mono B0.out.size))).mono ?_
  rintro e D1 ⟨u2, rfl, h2, bj⟩
  refine hK.out _ _ (kb0.trans (bj.mono kb0.size)) (fun hHeld => ?_)
  clear hK K
  try simp only [Act.put, sIb, sCz, sCs]
  have kb1 := kb0.trans (bj.mono kb0.size)
  have h2 := h_ h2
  clear bj
  refine wpAnyH_ready (rs := [3]) (by kernel_rfl) (by simp) ?_
  refine AllReadyH.cons rfl (fun K hK => ?_) (AllReadyH.nil)
  go_simp
  go_at_call 44
  refine (q2.out _ _ (B0.out.trans ((kb1).mono B0.out.size)) h2.out).mono ?_
  rintro e D2 ⟨rfl, bj⟩
  refine hK.out _ _ (kb1.trans (bj.mono kb1.size)) (fun hHeld => ?_)
  clear hK K
  try simp only [Act.put, sIb, sCz, sCs]
  have kb2 := kb1.trans (bj.mono kb1.size)
  clear bj
  refine tR 4 ?_ (some 9) rfl (by kernel_rfl) rfl (by rfl) ?_ (fun _ _ _ h => h) (by assumption) ?_
  rotate_left
  · intro w hSw; (try dsimp only at hSw); go_simp; (try with_reducible rfl)
  simp only [Act.put, sIb, sCz, sCs]
  refine tR 5 ?_ (some 10) rfl (by kernel_rfl) rfl (by rfl) ?_ (fun _ _ _ h => h) (by assumption) ?_
  rotate_left
  · intro w hSw; (try dsimp only at hSw); go_simp; (try with_reducible rfl)
  simp only [Act.put, sIb, sCz, sCs]
  refine takeR (i := 6) (v := undef) rfl (by kernel_rfl) (by kernel_rfl) (by kernel_rfl) (some 11) rfl (Or.inr ⟨by rfl, rfl⟩) (fun _ _ _ h => h) (by assumption) ?_
  simp only [Act.put, sIb, sCz, sCs]
  refine takeR (i := 7) (v := undef) rfl (by kernel_rfl) (by kernel_rfl) (by kernel_rfl) (some 12) rfl (Or.inr ⟨by rfl, rfl⟩) (fun _ _ _ h => h) (by assumption) ?_
  simp only [Act.put, sIb, sCz, sCs]
  refine takeR (i := 8) (v := undef) rfl (by kernel_rfl) (by kernel_rfl) (by kernel_rfl) (some 13) rfl (Or.inr ⟨by rfl, rfl⟩) (fun _ _ _ h => h) (by assumption) ?_
  simp only [Act.put, sIb, sCz, sCs]
  refine tR 9 ?_ (some 14) rfl (by kernel_rfl) rfl (by rfl) ?_ (fun _ _ _ h => h) (by assumption) ?_
  rotate_left
  · intro w hSw; (try dsimp only at hSw); go_simp; (try with_reducible rfl)
  simp only [Act.put, sIb, sCz, sCs]
  refine tR 10 ?_ (some 15) rfl (by kernel_rfl) rfl (by rfl) ?_ (fun _ _ _ h => h) (by assumption) ?_
  rotate_left
  · intro w hSw; (try dsimp only at hSw); go_simp; (try with_reducible rfl)
  simp only [Act.put, sIb, sCz, sCs]
  refine takeR (i := 11) (v := undef) rfl (by kernel_rfl) (by kernel_rfl) (by kernel_rfl) (some 16) rfl (Or.inr ⟨by rfl, rfl⟩) (fun _ _ _ h => h) (by assumption) ?_
  simp only [Act.put, sIb, sCz, sCs]
  refine takeR (i := 12) (v := undef) rfl (by kernel_rfl) (by kernel_rfl) (by kernel_rfl) (some 17) rfl (Or.inr ⟨by rfl, rfl⟩) (fun _ _ _ h => h) (by assumption) ?_
  simp only [Act.put, sIb, sCz, sCs]
  refine takeR (i := 13) (v := undef) rfl (by kernel_rfl) (by kernel_rfl) (by kernel_rfl) (some 18) rfl (Or.inr ⟨by rfl, rfl⟩) (fun _ _ _ h => h) (by assumption) ?_
  simp only [Act.put, sIb, sCz, sCs]
  refine takeR (i := 14) (v := undef) rfl (by kernel_rfl) (by kernel_rfl) (by kernel_rfl) (some 19) rfl (Or.inr ⟨by rfl, rfl⟩) (fun _ _ _ h => h) (by assumption) ?_
  simp only [Act.put, sIb, sCz, sCs]
  refine takeR (i := 15) (v := undef) rfl (by kernel_rfl) (by kernel_rfl) (by kernel_rfl) (some 20) rfl (Or.inr ⟨by rfl, rfl⟩) (fun _ _ _ h => h) (by assumption) ?_
  simp only [Act.put, sIb, sCz, sCs]
  refine tR 16 ?_ (some 21) rfl (by kernel_rfl) rfl (by rfl) ?_ (fun _ _ _ h => h) (by assumption) ?_
  rotate_left
  · intro w hSw; (try dsimp only at hSw); go_simp; (try with_reducible rfl)
  simp only [Act.put, sIb, sCz, sCs]
  refine wpAnyH_done (by kernel_rfl) ?_ _
  go_wp2_with fail
  go_ret
  exact ⟨rfl, B0.out.trans ((kb2).mono B0.out.size)⟩
theorem irig_B (k t : Int) (a b c d : Nat) (u : Value) (w : World) (k2 t2 : Int) (a2 b2 c2 d2 : Nat) (K : List A11) (z3 z4 : Bool) (er : Int)
    (q1 : Hid (∀ W, Below w.heap.size w W → Calls Tryz.prog 45 #[.agg #[.int .i64 k, .int .i64 t, .int .u64 (a : Int), .int .u64 (b : Int), .int .u64 (c : Int), .int .u64 (d : Int), u]] W fun e w' => ∃ u2, e = .returned (.agg #[.int .i64 k2, .int .i64 t2, .int .u64 (a2 : Int), .int .u64 (b2 : Int), .int .u64 (c2 : Int), .int .u64 (d2 : Int), u2]) ∧ ActAt w' u2 K ∧ Below W.heap.size W w'))
    (q2 : Hid (∀ u2 W, Below w.heap.size w W → ActAt W u2 K → Calls Tryz.prog 44 #[.agg #[.int .i64 k, .int .i64 t, .int .u64 (a : Int), .int .u64 (b : Int), .int .u64 (c : Int), .int .u64 (d : Int), u], .agg #[.int .i64 k2, .int .i64 t2, .int .u64 (a2 : Int), .int .u64 (b2 : Int), .int .u64 (c2 : Int), .int .u64 (d2 : Int), u2]] W fun e w' => e = .returned (.bool true) ∧ Below W.heap.size W w'))
    (q3 : Hid (∀ W, Calls Tryz.prog 46 #[.agg #[.int .i64 k, .int .i64 t, .int .u64 (a : Int), .int .u64 (b : Int), .int .u64 (c : Int), .int .u64 (d : Int), u]] W fun e w' => ∃ y z, e = .returned (.agg #[.bool true, .int .i64 y, .int .i64 z]) ∧ Below W.heap.size W w'))
    (q4 : Hid (∀ W, Calls Tryz.prog 47 #[wd c d, wd LW64.1 LW64.2] W fun e w' => e = .returned (.bool z4) ∧ Below W.heap.size W w'))
    (q5 : Hid (∀ W, Below w.heap.size w W → Calls Tryz.prog 49 #[u] W fun e w' => ∃ r, e = .returned (.tuple #[r, .int .i64 er]) ∧ Below W.heap.size W w')) :
    Calls Tryz.prog 19 #[.agg #[.int .i64 k, .int .i64 t, .int .u64 (a : Int), .int .u64 (b : Int), .int .u64 (c : Int), .int .u64 (d : Int), u]] w fun e w' => e = .returned (.bool false) ∧ Below w.heap.size w w' := by
  have B0 := h_ (below1 w (.cells #[.int .i64 k, .int .i64 t, .int .u64 (a : Int), .int .u64 (b : Int), .int .u64 (c : Int), .int .u64 (d : Int), u] 34))
  have A0 := h_ (AB.at0 w 34 [.int .i64 k, .int .i64 t, .int .u64 (a : Int), .int .u64 (b : Int), .int .u64 (c : Int), .int .u64 (d : Int), u])
  go_enter Tryz.func19, Tryz.ntmps19
  go_upto_region 1 with fail
  obtain ⟨x0, x1, x2, x3, x4, x5, x6, -⟩ := A0.out.k7
  generalize w.alloc (.cells #[.int .i64 k, .int .i64 t, .int .u64 (a : Int), .int .u64 (b : Int), .int .u64 (c : Int), .int .u64 (d : Int), u] 34) = w1 at *
  refine wp_region_held_drew (S := (fun w' => Below w1.heap.size w1 w')) (by kernel_rfl) ((Below.refl _ _).drew) (fun hHeld => ?_)
  have kb0 : Below w1.heap.size w1 w1.drew := (Below.refl _ _).drew
  generalize w1.drew = D0 at *
  refine tR 0 ?_ (some 5) rfl (by kernel_rfl) rfl (by rfl) ?_ (fun _ _ _ h => h) (by assumption) ?_
  rotate_left
  · intro w hSw; (try dsimp only at hSw); have hc0 := cell_later hSw x0; have hc1 := cell_later hSw x1; have hc2 := cell_later hSw x2; have hc3 := cell_later hSw x3; have hc4 := cell_later hSw x4; have hc5 := cell_later hSw x5; have hc6 := cell_later hSw x6; go_simp; (try with_reducible rfl)
  simp only [Act.put, sIb, sCz, sCs]
  refine tR 1 ?_ (some 6) rfl (by kernel_rfl) rfl (by rfl) ?_ (fun _ _ _ h => h) (by assumption) ?_
  rotate_left
  · intro w hSw; (try dsimp only at hSw); have hc0 := cell_later hSw x0; have hc1 := cell_later hSw x1; have hc2 := cell_later hSw x2; have hc3 := cell_later hSw x3; have hc4 := cell_later hSw x4; have hc5 := cell_later hSw x5; have hc6 := cell_later hSw x6; go_simp; (try with_reducible rfl)
  simp only [Act.put, sIb, sCz, sCs]
  refine wpAnyH_ready (rs := [2]) (by kernel_rfl) (by simp) ?_
  refine AllReadyH.cons rfl (fun K hK => ?_) (AllReadyH.nil)
  go_simp
  go_at_call 45
  refine (q1.out _ (B0.out.trans ((kb0).mono B0.out.size))).mono ?_
  rintro e D1 ⟨u2, rfl, h2, bj⟩
  refine hK.out _ _ (kb0.trans (bj.mono kb0.size)) (fun hHeld => ?_)
  clear hK K
  try simp only [Act.put, sIb, sCz, sCs]
  have kb1 := kb0.trans (bj.mono kb0.size)
  have h2 := h_ h2
  clear bj
  refine wpAnyH_ready (rs := [3]) (by kernel_rfl) (by simp) ?_
  refine AllReadyH.cons rfl (fun K hK => ?_) (AllReadyH.nil)
  go_simp
  go_at_call 44
  refine (q2.out _ _ (B0.out.trans ((kb1).mono B0.out.size)) h2.out).mono ?_
  rintro e D2 ⟨rfl, bj⟩
  refine hK.out _ _ (kb1.trans (bj.mono kb1.size)) (fun hHeld => ?_)
  clear hK K
  try simp only [Act.put, sIb, sCz, sCs]
  have kb2 := kb1.trans (bj.mono kb1.size)
  clear bj
  refine tR 4 ?_ (some 9) rfl (by kernel_rfl) rfl (by rfl) ?_ (fun _ _ _ h => h) (by assumption) ?_
  rotate_left
  · intro w hSw; (try dsimp only at hSw); go_simp; (try with_reducible rfl)
  simp only [Act.put, sIb, sCz, sCs]
  refine tR 5 ?_ (some 10) rfl (by kernel_rfl) rfl (by rfl) ?_ (fun _ _ _ h => h) (by assumption) ?_
  rotate_left
  · intro w hSw; (try dsimp only at hSw); go_simp; (try with_reducible rfl)
  simp only [Act.put, sIb, sCz, sCs]
  refine tR 6 ?_ (some 11) rfl (by kernel_rfl) rfl (by rfl) ?_ (fun _ _ _ h => h) (by assumption) ?_
  rotate_left
  · intro w hSw; (try dsimp only at hSw); have hc0 := cell_later hSw x0; have hc1 := cell_later hSw x1; have hc2 := cell_later hSw x2; have hc3 := cell_later hSw x3; have hc4 := cell_later hSw x4; have hc5 := cell_later hSw x5; have hc6 := cell_later hSw x6; go_simp; (try with_reducible rfl)
  simp only [Act.put, sIb, sCz, sCs]
  refine wpAnyH_ready (rs := [7]) (by kernel_rfl) (by simp) ?_
  refine AllReadyH.cons rfl (fun K hK => ?_) (AllReadyH.nil)
  go_simp
  go_at_call 46
  refine (q3.out _).mono ?_
  rintro e D3 ⟨y3, z3, rfl, bj⟩
  refine hK.out _ _ (kb2.trans (bj.mono kb2.size)) (fun hHeld => ?_)
  clear hK K
  try simp only [Act.put, sIb, sCz, sCs]
  have kb3 := kb2.trans (bj.mono kb2.size)
  clear bj
  refine tR 8 ?_ (some 13) rfl (by kernel_rfl) rfl (by rfl) ?_ (fun _ _ _ h => h) (by assumption) ?_
  rotate_left
  · intro w hSw; (try dsimp only at hSw); go_simp; rw [fld0]; rfl
  simp only [Act.put, sIb, sCz, sCs]
  refine tR 9 ?_ (some 14) rfl (by kernel_rfl) rfl (by rfl) ?_ (fun _ _ _ h => h) (by assumption) ?_
  rotate_left
  · intro w hSw; (try dsimp only at hSw); go_simp; (try with_reducible rfl)
  simp only [Act.put, sIb, sCz, sCs]
  refine tR 10 ?_ (some 15) rfl (by kernel_rfl) rfl (by rfl) ?_ (fun _ _ _ h => h) (by assumption) ?_
  rotate_left
  · intro w hSw; (try dsimp only at hSw); go_simp; (try with_reducible rfl)
  simp only [Act.put, sIb, sCz, sCs]
  refine takeR (i := 11) (v := undef) rfl (by kernel_rfl) (by kernel_rfl) (by kernel_rfl) (some 16) rfl (Or.inr ⟨by rfl, rfl⟩) (fun _ _ _ h => h) (by assumption) ?_
  simp only [Act.put, sIb, sCz, sCs]
  refine takeR (i := 12) (v := undef) rfl (by kernel_rfl) (by kernel_rfl) (by kernel_rfl) (some 17) rfl (Or.inr ⟨by rfl, rfl⟩) (fun _ _ _ h => h) (by assumption) ?_
  simp only [Act.put, sIb, sCz, sCs]
  refine takeR (i := 13) (v := undef) rfl (by kernel_rfl) (by kernel_rfl) (by kernel_rfl) (some 18) rfl (Or.inr ⟨by rfl, rfl⟩) (fun _ _ _ h => h) (by assumption) ?_
  simp only [Act.put, sIb, sCz, sCs]
  refine takeR (i := 14) (v := undef) rfl (by kernel_rfl) (by kernel_rfl) (by kernel_rfl) (some 19) rfl (Or.inr ⟨by rfl, rfl⟩) (fun _ _ _ h => h) (by assumption) ?_
  simp only [Act.put, sIb, sCz, sCs]
  refine takeR (i := 15) (v := undef) rfl (by kernel_rfl) (by kernel_rfl) (by kernel_rfl) (some 20) rfl (Or.inr ⟨by rfl, rfl⟩) (fun _ _ _ h => h) (by assumption) ?_
  simp only [Act.put, sIb, sCz, sCs]
  refine tR 16 ?_ (some 21) rfl (by kernel_rfl) rfl (by rfl) ?_ (fun _ _ _ h => h) (by assumption) ?_
  rotate_left
  · intro w hSw; (try dsimp only at hSw); go_simp; (try with_reducible rfl)
  simp only [Act.put, sIb, sCz, sCs]
  refine wpAnyH_done (by kernel_rfl) ?_ _
  go_wp2_with fail
  go_ret
  exact ⟨rfl, B0.out.trans ((kb3).mono B0.out.size)⟩
theorem irig_C (k t : Int) (a b c d : Nat) (u : Value) (w : World) (k2 t2 : Int) (a2 b2 c2 d2 : Nat) (K : List A11) (z3 z4 : Bool) (er : Int)
    (q1 : Hid (∀ W, Below w.heap.size w W → Calls Tryz.prog 45 #[.agg #[.int .i64 k, .int .i64 t, .int .u64 (a : Int), .int .u64 (b : Int), .int .u64 (c : Int), .int .u64 (d : Int), u]] W fun e w' => ∃ u2, e = .returned (.agg #[.int .i64 k2, .int .i64 t2, .int .u64 (a2 : Int), .int .u64 (b2 : Int), .int .u64 (c2 : Int), .int .u64 (d2 : Int), u2]) ∧ ActAt w' u2 K ∧ Below W.heap.size W w'))
    (q2 : Hid (∀ u2 W, Below w.heap.size w W → ActAt W u2 K → Calls Tryz.prog 44 #[.agg #[.int .i64 k, .int .i64 t, .int .u64 (a : Int), .int .u64 (b : Int), .int .u64 (c : Int), .int .u64 (d : Int), u], .agg #[.int .i64 k2, .int .i64 t2, .int .u64 (a2 : Int), .int .u64 (b2 : Int), .int .u64 (c2 : Int), .int .u64 (d2 : Int), u2]] W fun e w' => e = .returned (.bool true) ∧ Below W.heap.size W w'))
    (q3 : Hid (∀ W, Calls Tryz.prog 46 #[.agg #[.int .i64 k, .int .i64 t, .int .u64 (a : Int), .int .u64 (b : Int), .int .u64 (c : Int), .int .u64 (d : Int), u]] W fun e w' => ∃ y z, e = .returned (.agg #[.bool false, .int .i64 y, .int .i64 z]) ∧ Below W.heap.size W w'))
    (q4 : Hid (∀ W, Calls Tryz.prog 47 #[wd c d, wd LW64.1 LW64.2] W fun e w' => e = .returned (.bool false) ∧ Below W.heap.size W w'))
    (q5 : Hid (∀ W, Below w.heap.size w W → Calls Tryz.prog 49 #[u] W fun e w' => ∃ r, e = .returned (.tuple #[r, .int .i64 er]) ∧ Below W.heap.size W w')) :
    Calls Tryz.prog 19 #[.agg #[.int .i64 k, .int .i64 t, .int .u64 (a : Int), .int .u64 (b : Int), .int .u64 (c : Int), .int .u64 (d : Int), u]] w fun e w' => e = .returned (.bool false) ∧ Below w.heap.size w w' := by
  have B0 := h_ (below1 w (.cells #[.int .i64 k, .int .i64 t, .int .u64 (a : Int), .int .u64 (b : Int), .int .u64 (c : Int), .int .u64 (d : Int), u] 34))
  have A0 := h_ (AB.at0 w 34 [.int .i64 k, .int .i64 t, .int .u64 (a : Int), .int .u64 (b : Int), .int .u64 (c : Int), .int .u64 (d : Int), u])
  go_enter Tryz.func19, Tryz.ntmps19
  go_upto_region 1 with fail
  obtain ⟨x0, x1, x2, x3, x4, x5, x6, -⟩ := A0.out.k7
  generalize w.alloc (.cells #[.int .i64 k, .int .i64 t, .int .u64 (a : Int), .int .u64 (b : Int), .int .u64 (c : Int), .int .u64 (d : Int), u] 34) = w1 at *
  refine wp_region_held_drew (S := (fun w' => Below w1.heap.size w1 w')) (by kernel_rfl) ((Below.refl _ _).drew) (fun hHeld => ?_)
  have kb0 : Below w1.heap.size w1 w1.drew := (Below.refl _ _).drew
  generalize w1.drew = D0 at *
  refine tR 0 ?_ (some 5) rfl (by kernel_rfl) rfl (by rfl) ?_ (fun _ _ _ h => h) (by assumption) ?_
  rotate_left
  · intro w hSw; (try dsimp only at hSw); have hc0 := cell_later hSw x0; have hc1 := cell_later hSw x1; have hc2 := cell_later hSw x2; have hc3 := cell_later hSw x3; have hc4 := cell_later hSw x4; have hc5 := cell_later hSw x5; have hc6 := cell_later hSw x6; go_simp; (try with_reducible rfl)
  simp only [Act.put, sIb, sCz, sCs]
  refine tR 1 ?_ (some 6) rfl (by kernel_rfl) rfl (by rfl) ?_ (fun _ _ _ h => h) (by assumption) ?_
  rotate_left
  · intro w hSw; (try dsimp only at hSw); have hc0 := cell_later hSw x0; have hc1 := cell_later hSw x1; have hc2 := cell_later hSw x2; have hc3 := cell_later hSw x3; have hc4 := cell_later hSw x4; have hc5 := cell_later hSw x5; have hc6 := cell_later hSw x6; go_simp; (try with_reducible rfl)
  simp only [Act.put, sIb, sCz, sCs]
  refine wpAnyH_ready (rs := [2]) (by kernel_rfl) (by simp) ?_
  refine AllReadyH.cons rfl (fun K hK => ?_) (AllReadyH.nil)
  go_simp
  go_at_call 45
  refine (q1.out _ (B0.out.trans ((kb0).mono B0.out.size))).mono ?_
  rintro e D1 ⟨u2, rfl, h2, bj⟩
  refine hK.out _ _ (kb0.trans (bj.mono kb0.size)) (fun hHeld => ?_)
  clear hK K
  try simp only [Act.put, sIb, sCz, sCs]
  have kb1 := kb0.trans (bj.mono kb0.size)
  have h2 := h_ h2
  clear bj
  refine wpAnyH_ready (rs := [3]) (by kernel_rfl) (by simp) ?_
  refine AllReadyH.cons rfl (fun K hK => ?_) (AllReadyH.nil)
  go_simp
  go_at_call 44
  refine (q2.out _ _ (B0.out.trans ((kb1).mono B0.out.size)) h2.out).mono ?_
  rintro e D2 ⟨rfl, bj⟩
  refine hK.out _ _ (kb1.trans (bj.mono kb1.size)) (fun hHeld => ?_)
  clear hK K
  try simp only [Act.put, sIb, sCz, sCs]
  have kb2 := kb1.trans (bj.mono kb1.size)
  clear bj
  refine tR 4 ?_ (some 9) rfl (by kernel_rfl) rfl (by rfl) ?_ (fun _ _ _ h => h) (by assumption) ?_
  rotate_left
  · intro w hSw; (try dsimp only at hSw); go_simp; (try with_reducible rfl)
  simp only [Act.put, sIb, sCz, sCs]
  refine tR 5 ?_ (some 10) rfl (by kernel_rfl) rfl (by rfl) ?_ (fun _ _ _ h => h) (by assumption) ?_
  rotate_left
  · intro w hSw; (try dsimp only at hSw); go_simp; (try with_reducible rfl)
  simp only [Act.put, sIb, sCz, sCs]
  refine tR 6 ?_ (some 11) rfl (by kernel_rfl) rfl (by rfl) ?_ (fun _ _ _ h => h) (by assumption) ?_
  rotate_left
  · intro w hSw; (try dsimp only at hSw); have hc0 := cell_later hSw x0; have hc1 := cell_later hSw x1; have hc2 := cell_later hSw x2; have hc3 := cell_later hSw x3; have hc4 := cell_later hSw x4; have hc5 := cell_later hSw x5; have hc6 := cell_later hSw x6; go_simp; (try with_reducible rfl)
  simp only [Act.put, sIb, sCz, sCs]
  refine wpAnyH_ready (rs := [7]) (by kernel_rfl) (by simp) ?_
  refine AllReadyH.cons rfl (fun K hK => ?_) (AllReadyH.nil)
  go_simp
  go_at_call 46
  refine (q3.out _).mono ?_
  rintro e D3 ⟨y3, z3, rfl, bj⟩
  refine hK.out _ _ (kb2.trans (bj.mono kb2.size)) (fun hHeld => ?_)
  clear hK K
  try simp only [Act.put, sIb, sCz, sCs]
  have kb3 := kb2.trans (bj.mono kb2.size)
  clear bj
  refine tR 8 ?_ (some 13) rfl (by kernel_rfl) rfl (by rfl) ?_ (fun _ _ _ h => h) (by assumption) ?_
  rotate_left
  · intro w hSw; (try dsimp only at hSw); go_simp; rw [fld0]; rfl
  simp only [Act.put, sIb, sCz, sCs]
  refine tR 9 ?_ (some 14) rfl (by kernel_rfl) rfl (by rfl) ?_ (fun _ _ _ h => h) (by assumption) ?_
  rotate_left
  · intro w hSw; (try dsimp only at hSw); go_simp; (try with_reducible rfl)
  simp only [Act.put, sIb, sCz, sCs]
  refine tR 10 ?_ (some 15) rfl (by kernel_rfl) rfl (by rfl) ?_ (fun _ _ _ h => h) (by assumption) ?_
  rotate_left
  · intro w hSw; (try dsimp only at hSw); go_simp; (try with_reducible rfl)
  simp only [Act.put, sIb, sCz, sCs]
  refine tR 11 ?_ (some 16) rfl (by kernel_rfl) rfl (by rfl) ?_ (fun _ _ _ h => h) (by assumption) ?_
  rotate_left
  · intro w hSw; (try dsimp only at hSw); go_simp; (try with_reducible rfl)
  simp only [Act.put, sIb, sCz, sCs]
  refine tR 12 ?_ (some 17) rfl (by kernel_rfl) rfl (by rfl) ?_ (fun _ _ _ h => h) (by assumption) ?_
  rotate_left
  · intro w hSw; (try dsimp only at hSw); have hc0 := cell_later hSw x0; have hc1 := cell_later hSw x1; have hc2 := cell_later hSw x2; have hc3 := cell_later hSw x3; have hc4 := cell_later hSw x4; have hc5 := cell_later hSw x5; have hc6 := cell_later hSw x6; go_simp; (try with_reducible rfl)
  simp only [Act.put, sIb, sCz, sCs]
  refine wpAnyH_ready (rs := [13]) (by kernel_rfl) (by simp) ?_
  refine AllReadyH.cons rfl (fun K hK => ?_) (AllReadyH.nil)
  go_simp
  go_at_call 48
  refine (low64_any _).mono ?_
  rintro e D4 ⟨rfl, bj⟩
  refine hK.out _ _ (kb3.trans (bj.mono kb3.size)) (fun hHeld => ?_)
  clear hK K
  try simp only [Act.put, sIb, sCz, sCs]
  have kb4 := kb3.trans (bj.mono kb3.size)
  clear bj
  refine wpAnyH_ready (rs := [14]) (by kernel_rfl) (by simp) ?_
  refine AllReadyH.cons rfl (fun K hK => ?_) (AllReadyH.nil)
  go_simp
  go_at_call 47
  refine (q4.out _).mono ?_
  rintro e D5 ⟨rfl, bj⟩
  refine hK.out _ _ (kb4.trans (bj.mono kb4.size)) (fun hHeld => ?_)
  clear hK K
  try simp only [Act.put, sIb, sCz, sCs]
  have kb5 := kb4.trans (bj.mono kb4.size)
  clear bj
  refine tR 15 ?_ (some 20) rfl (by kernel_rfl) rfl (by rfl) ?_ (fun _ _ _ h => h) (by assumption) ?_
  rotate_left
  · intro w hSw; (try dsimp only at hSw); go_simp; (try with_reducible rfl)
  simp only [Act.put, sIb, sCz, sCs]
  refine tR 16 ?_ (some 21) rfl (by kernel_rfl) rfl (by rfl) ?_ (fun _ _ _ h => h) (by assumption) ?_
  rotate_left
  · intro w hSw; (try dsimp only at hSw); go_simp; (try with_reducible rfl)
  simp only [Act.put, sIb, sCz, sCs]
  refine wpAnyH_done (by kernel_rfl) ?_ _
  go_wp2_with fail
  go_ret
  exact ⟨rfl, B0.out.trans ((kb5).mono B0.out.size)⟩
theorem irig_D (k t : Int) (a b c d : Nat) (u : Value) (w : World) (k2 t2 : Int) (a2 b2 c2 d2 : Nat) (K : List A11) (z3 z4 : Bool) (er : Int)
    (q1 : Hid (∀ W, Below w.heap.size w W → Calls Tryz.prog 45 #[.agg #[.int .i64 k, .int .i64 t, .int .u64 (a : Int), .int .u64 (b : Int), .int .u64 (c : Int), .int .u64 (d : Int), u]] W fun e w' => ∃ u2, e = .returned (.agg #[.int .i64 k2, .int .i64 t2, .int .u64 (a2 : Int), .int .u64 (b2 : Int), .int .u64 (c2 : Int), .int .u64 (d2 : Int), u2]) ∧ ActAt w' u2 K ∧ Below W.heap.size W w'))
    (q2 : Hid (∀ u2 W, Below w.heap.size w W → ActAt W u2 K → Calls Tryz.prog 44 #[.agg #[.int .i64 k, .int .i64 t, .int .u64 (a : Int), .int .u64 (b : Int), .int .u64 (c : Int), .int .u64 (d : Int), u], .agg #[.int .i64 k2, .int .i64 t2, .int .u64 (a2 : Int), .int .u64 (b2 : Int), .int .u64 (c2 : Int), .int .u64 (d2 : Int), u2]] W fun e w' => e = .returned (.bool true) ∧ Below W.heap.size W w'))
    (q3 : Hid (∀ W, Calls Tryz.prog 46 #[.agg #[.int .i64 k, .int .i64 t, .int .u64 (a : Int), .int .u64 (b : Int), .int .u64 (c : Int), .int .u64 (d : Int), u]] W fun e w' => ∃ y z, e = .returned (.agg #[.bool false, .int .i64 y, .int .i64 z]) ∧ Below W.heap.size W w'))
    (q4 : Hid (∀ W, Calls Tryz.prog 47 #[wd c d, wd LW64.1 LW64.2] W fun e w' => e = .returned (.bool true) ∧ Below W.heap.size W w'))
    (q5 : Hid (∀ W, Below w.heap.size w W → Calls Tryz.prog 49 #[u] W fun e w' => ∃ r, e = .returned (.tuple #[r, .int .i64 0]) ∧ Below W.heap.size W w')) :
    Calls Tryz.prog 19 #[.agg #[.int .i64 k, .int .i64 t, .int .u64 (a : Int), .int .u64 (b : Int), .int .u64 (c : Int), .int .u64 (d : Int), u]] w fun e w' => e = .returned (.bool true) ∧ Below w.heap.size w w' := by
  have B0 := h_ (below1 w (.cells #[.int .i64 k, .int .i64 t, .int .u64 (a : Int), .int .u64 (b : Int), .int .u64 (c : Int), .int .u64 (d : Int), u] 34))
  have A0 := h_ (AB.at0 w 34 [.int .i64 k, .int .i64 t, .int .u64 (a : Int), .int .u64 (b : Int), .int .u64 (c : Int), .int .u64 (d : Int), u])
  go_enter Tryz.func19, Tryz.ntmps19
  go_upto_region 1 with fail
  obtain ⟨x0, x1, x2, x3, x4, x5, x6, -⟩ := A0.out.k7
  generalize w.alloc (.cells #[.int .i64 k, .int .i64 t, .int .u64 (a : Int), .int .u64 (b : Int), .int .u64 (c : Int), .int .u64 (d : Int), u] 34) = w1 at *
  refine wp_region_held_drew (S := (fun w' => Below w1.heap.size w1 w')) (by kernel_rfl) ((Below.refl _ _).drew) (fun hHeld => ?_)
  have kb0 : Below w1.heap.size w1 w1.drew := (Below.refl _ _).drew
  generalize w1.drew = D0 at *
  refine tR 0 ?_ (some 5) rfl (by kernel_rfl) rfl (by rfl) ?_ (fun _ _ _ h => h) (by assumption) ?_
  rotate_left
  · intro w hSw; (try dsimp only at hSw); have hc0 := cell_later hSw x0; have hc1 := cell_later hSw x1; have hc2 := cell_later hSw x2; have hc3 := cell_later hSw x3; have hc4 := cell_later hSw x4; have hc5 := cell_later hSw x5; have hc6 := cell_later hSw x6; go_simp; (try with_reducible rfl)
  simp only [Act.put, sIb, sCz, sCs]
  refine tR 1 ?_ (some 6) rfl (by kernel_rfl) rfl (by rfl) ?_ (fun _ _ _ h => h) (by assumption) ?_
  rotate_left
  · intro w hSw; (try dsimp only at hSw); have hc0 := cell_later hSw x0; have hc1 := cell_later hSw x1; have hc2 := cell_later hSw x2; have hc3 := cell_later hSw x3; have hc4 := cell_later hSw x4; have hc5 := cell_later hSw x5; have hc6 := cell_later hSw x6; go_simp; (try with_reducible rfl)
  simp only [Act.put, sIb, sCz, sCs]
  refine wpAnyH_ready (rs := [2]) (by kernel_rfl) (by simp) ?_
  refine AllReadyH.cons rfl (fun K hK => ?_) (AllReadyH.nil)
  go_simp
  go_at_call 45
  refine (q1.out _ (B0.out.trans ((kb0).mono B0.out.size))).mono ?_
  rintro e D1 ⟨u2, rfl, h2, bj⟩
  refine hK.out _ _ (kb0.trans (bj.mono kb0.size)) (fun hHeld => ?_)
  clear hK K
  try simp only [Act.put, sIb, sCz, sCs]
  have kb1 := kb0.trans (bj.mono kb0.size)
  have h2 := h_ h2
  clear bj
  refine wpAnyH_ready (rs := [3]) (by kernel_rfl) (by simp) ?_
  refine AllReadyH.cons rfl (fun K hK => ?_) (AllReadyH.nil)
  go_simp
  go_at_call 44
  refine (q2.out _ _ (B0.out.trans ((kb1).mono B0.out.size)) h2.out).mono ?_
  rintro e D2 ⟨rfl, bj⟩
  refine hK.out _ _ (kb1.trans (bj.mono kb1.size)) (fun hHeld => ?_)
  clear hK K
  try simp only [Act.put, sIb, sCz, sCs]
  have kb2 := kb1.trans (bj.mono kb1.size)
  clear bj
  refine tR 4 ?_ (some 9) rfl (by kernel_rfl) rfl (by rfl) ?_ (fun _ _ _ h => h) (by assumption) ?_
  rotate_left
  · intro w hSw; (try dsimp only at hSw); go_simp; (try with_reducible rfl)
  simp only [Act.put, sIb, sCz, sCs]
  refine tR 5 ?_ (some 10) rfl (by kernel_rfl) rfl (by rfl) ?_ (fun _ _ _ h => h) (by assumption) ?_
  rotate_left
  · intro w hSw; (try dsimp only at hSw); go_simp; (try with_reducible rfl)
  simp only [Act.put, sIb, sCz, sCs]
  refine tR 6 ?_ (some 11) rfl (by kernel_rfl) rfl (by rfl) ?_ (fun _ _ _ h => h) (by assumption) ?_
  rotate_left
  · intro w hSw; (try dsimp only at hSw); have hc0 := cell_later hSw x0; have hc1 := cell_later hSw x1; have hc2 := cell_later hSw x2; have hc3 := cell_later hSw x3; have hc4 := cell_later hSw x4; have hc5 := cell_later hSw x5; have hc6 := cell_later hSw x6; go_simp; (try with_reducible rfl)
  simp only [Act.put, sIb, sCz, sCs]
  refine wpAnyH_ready (rs := [7]) (by kernel_rfl) (by simp) ?_
  refine AllReadyH.cons rfl (fun K hK => ?_) (AllReadyH.nil)
  go_simp
  go_at_call 46
  refine (q3.out _).mono ?_
  rintro e D3 ⟨y3, z3, rfl, bj⟩
  refine hK.out _ _ (kb2.trans (bj.mono kb2.size)) (fun hHeld => ?_)
  clear hK K
  try simp only [Act.put, sIb, sCz, sCs]
  have kb3 := kb2.trans (bj.mono kb2.size)
  clear bj
  refine tR 8 ?_ (some 13) rfl (by kernel_rfl) rfl (by rfl) ?_ (fun _ _ _ h => h) (by assumption) ?_
  rotate_left
  · intro w hSw; (try dsimp only at hSw); go_simp; rw [fld0]; rfl
  simp only [Act.put, sIb, sCz, sCs]
  refine tR 9 ?_ (some 14) rfl (by kernel_rfl) rfl (by rfl) ?_ (fun _ _ _ h => h) (by assumption) ?_
  rotate_left
  · intro w hSw; (try dsimp only at hSw); go_simp; (try with_reducible rfl)
  simp only [Act.put, sIb, sCz, sCs]
  refine tR 10 ?_ (some 15) rfl (by kernel_rfl) rfl (by rfl) ?_ (fun _ _ _ h => h) (by assumption) ?_
  rotate_left
  · intro w hSw; (try dsimp only at hSw); go_simp; (try with_reducible rfl)
  simp only [Act.put, sIb, sCz, sCs]
  refine tR 11 ?_ (some 16) rfl (by kernel_rfl) rfl (by rfl) ?_ (fun _ _ _ h => h) (by assumption) ?_
  rotate_left
  · intro w hSw; (try dsimp only at hSw); go_simp; (try with_reducible rfl)
  simp only [Act.put, sIb, sCz, sCs]
  refine tR 12 ?_ (some 17) rfl (by kernel_rfl) rfl (by rfl) ?_ (fun _ _ _ h => h) (by assumption) ?_
  rotate_left
  · intro w hSw; (try dsimp only at hSw); have hc0 := cell_later hSw x0; have hc1 := cell_later hSw x1; have hc2 := cell_later hSw x2; have hc3 := cell_later hSw x3; have hc4 := cell_later hSw x4; have hc5 := cell_later hSw x5; have hc6 := cell_later hSw x6; go_simp; (try with_reducible rfl)
  simp only [Act.put, sIb, sCz, sCs]
  refine wpAnyH_ready (rs := [13]) (by kernel_rfl) (by simp) ?_
  refine AllReadyH.cons rfl (fun K hK => ?_) (AllReadyH.nil)
  go_simp
  go_at_call 48
  refine (low64_any _).mono ?_
  rintro e D4 ⟨rfl, bj⟩
  refine hK.out _ _ (kb3.trans (bj.mono kb3.size)) (fun hHeld => ?_)
  clear hK K
  try simp only [Act.put, sIb, sCz, sCs]
  have kb4 := kb3.trans (bj.mono kb3.size)
  clear bj
  refine wpAnyH_ready (rs := [14]) (by kernel_rfl) (by simp) ?_
  refine AllReadyH.cons rfl (fun K hK => ?_) (AllReadyH.nil)
  go_simp
  go_at_call 47
  refine (q4.out _).mono ?_
  rintro e D5 ⟨rfl, bj⟩
  refine hK.out _ _ (kb4.trans (bj.mono kb4.size)) (fun hHeld => ?_)
  clear hK K
  try simp only [Act.put, sIb, sCz, sCs]
  have kb5 := kb4.trans (bj.mono kb4.size)
  clear bj
  refine tR 15 ?_ (some 20) rfl (by kernel_rfl) rfl (by rfl) ?_ (fun _ _ _ h => h) (by assumption) ?_
  rotate_left
  · intro w hSw; (try dsimp only at hSw); go_simp; (try with_reducible rfl)
  simp only [Act.put, sIb, sCz, sCs]
  refine tR 16 ?_ (some 21) rfl (by kernel_rfl) rfl (by rfl) ?_ (fun _ _ _ h => h) (by assumption) ?_
  rotate_left
  · intro w hSw; (try dsimp only at hSw); go_simp; (try with_reducible rfl)
  simp only [Act.put, sIb, sCz, sCs]
  refine wpAnyH_done (by kernel_rfl) ?_ _
  have k8 := h_ (B0.out.trans ((kb5).mono B0.out.size))
  obtain ⟨x0, x1, x2, x3, x4, x5, x6, -⟩ := (A0.out.later kb5).k7
  go_wp2_with (go_at_call 49; refine (q5.out _ k8.out).mono ?_; rintro e w9 ⟨r9, rfl, b9⟩; have k9 := h_ (k8.out.trans (b9.mono k8.out.size)); clear b9)
  go_ret
  exact ⟨by first | rfl | simp, k9.out⟩
theorem irig_E (k t : Int) (a b c d : Nat) (u : Value) (w : World) (k2 t2 : Int) (a2 b2 c2 d2 : Nat) (K : List A11) (z3 z4 : Bool) (er : Int)
    (q1 : Hid (∀ W, Below w.heap.size w W → Calls Tryz.prog 45 #[.agg #[.int .i64 k, .int .i64 t, .int .u64 (a : Int), .int .u64 (b : Int), .int .u64 (c : Int), .int .u64 (d : Int), u]] W fun e w' => ∃ u2, e = .returned (.agg #[.int .i64 k2, .int .i64 t2, .int .u64 (a2 : Int), .int .u64 (b2 : Int), .int .u64 (c2 : Int), .int .u64 (d2 : Int), u2]) ∧ ActAt w' u2 K ∧ Below W.heap.size W w'))
    (q2 : Hid (∀ u2 W, Below w.heap.size w W → ActAt W u2 K → Calls Tryz.prog 44 #[.agg #[.int .i64 k, .int .i64 t, .int .u64 (a : Int), .int .u64 (b : Int), .int .u64 (c : Int), .int .u64 (d : Int), u], .agg #[.int .i64 k2, .int .i64 t2, .int .u64 (a2 : Int), .int .u64 (b2 : Int), .int .u64 (c2 : Int), .int .u64 (d2 : Int), u2]] W fun e w' => e = .returned (.bool true) ∧ Below W.heap.size W w'))
    (q3 : Hid (∀ W, Calls Tryz.prog 46 #[.agg #[.int .i64 k, .int .i64 t, .int .u64 (a : Int), .int .u64 (b : Int), .int .u64 (c : Int), .int .u64 (d : Int), u]] W fun e w' => ∃ y z, e = .returned (.agg #[.bool false, .int .i64 y, .int .i64 z]) ∧ Below W.heap.size W w'))
    (q4 : Hid (∀ W, Calls Tryz.prog 47 #[wd c d, wd LW64.1 LW64.2] W fun e w' => e = .returned (.bool true) ∧ Below W.heap.size W w'))
    (q5 : Hid (∀ W, Below w.heap.size w W → Calls Tryz.prog 49 #[u] W fun e w' => ∃ r, e = .returned (.tuple #[r, .int .i64 1]) ∧ Below W.heap.size W w')) :
    Calls Tryz.prog 19 #[.agg #[.int .i64 k, .int .i64 t, .int .u64 (a : Int), .int .u64 (b : Int), .int .u64 (c : Int), .int .u64 (d : Int), u]] w fun e w' => e = .returned (.bool false) ∧ Below w.heap.size w w' := by
  have B0 := h_ (below1 w (.cells #[.int .i64 k, .int .i64 t, .int .u64 (a : Int), .int .u64 (b : Int), .int .u64 (c : Int), .int .u64 (d : Int), u] 34))
  have A0 := h_ (AB.at0 w 34 [.int .i64 k, .int .i64 t, .int .u64 (a : Int), .int .u64 (b : Int), .int .u64 (c : Int), .int .u64 (d : Int), u])
  go_enter Tryz.func19, Tryz.ntmps19
  go_upto_region 1 with fail
  obtain ⟨x0, x1, x2, x3, x4, x5, x6, -⟩ := A0.out.k7
  generalize w.alloc (.cells #[.int .i64 k, .int .i64 t, .int .u64 (a : Int), .int .u64 (b : Int), .int .u64 (c : Int), .int .u64 (d : Int), u] 34) = w1 at *
  refine wp_region_held_drew (S := (fun w' => Below w1.heap.size w1 w')) (by kernel_rfl) ((Below.refl _ _).drew) (fun hHeld => ?_)
  have kb0 : Below w1.heap.size w1 w1.drew := (Below.refl _ _).drew
  generalize w1.drew = D0 at *
  refine tR 0 ?_ (some 5) rfl (by kernel_rfl) rfl (by rfl) ?_ (fun _ _ _ h => h) (by assumption) ?_
  rotate_left
  · intro w hSw; (try dsimp only at hSw); have hc0 := cell_later hSw x0; have hc1 := cell_later hSw x1; have hc2 := cell_later hSw x2; have hc3 := cell_later hSw x3; have hc4 := cell_later hSw x4; have hc5 := cell_later hSw x5; have hc6 := cell_later hSw x6; go_simp; (try with_reducible rfl)
  simp only [Act.put, sIb, sCz, sCs]
  refine tR 1 ?_ (some 6) rfl (by kernel_rfl) rfl (by rfl) ?_ (fun _ _ _ h => h) (by assumption) ?_
  rotate_left
  · intro w hSw; (try dsimp only at hSw); have hc0 := cell_later hSw x0; have hc1 := cell_later hSw x1; have hc2 := cell_later hSw x2; have hc3 := cell_later hSw x3; have hc4 := cell_later hSw x4; have hc5 := cell_later hSw x5; have hc6 := cell_later hSw x6; go_simp; (try with_reducible rfl)
  simp only [Act.put, sIb, sCz, sCs]
  refine wpAnyH_ready (rs := [2]) (by kernel_rfl) (by simp) ?_
  refine AllReadyH.cons rfl (fun K hK => ?_) (AllReadyH.nil)
  go_simp
  go_at_call 45
  refine (q1.out _ (B0.out.trans ((kb0).mono B0.out.size))).mono ?_
  rintro e D1 ⟨u2, rfl, h2, bj⟩
  refine hK.out _ _ (kb0.trans (bj.mono kb0.size)) (fun hHeld => ?_)
  clear hK K
  try simp only [Act.put, sIb, sCz, sCs]
  have kb1 := kb0.trans (bj.mono kb0.size)
  have h2 := h_ h2
  clear bj
  refine wpAnyH_ready (rs := [3]) (by kernel_rfl) (by simp) ?_
  refine AllReadyH.cons rfl (fun K hK => ?_) (AllReadyH.nil)
  go_simp
  go_at_call 44
  refine (q2.out _ _ (B0.out.trans ((kb1).mono B0.out.size)) h2.out).mono ?_
  rintro e D2 ⟨rfl, bj⟩
  refine hK.out _ _ (kb1.trans (bj.mono kb1.size)) (fun hHeld => ?_)
  clear hK K
  try simp only [Act.put, sIb, sCz, sCs]
  have kb2 := kb1.trans (bj.mono kb1.size)
  clear bj
  refine tR 4 ?_ (some 9) rfl (by kernel_rfl) rfl (by rfl) ?_ (fun _ _ _ h => h) (by assumption) ?_
  rotate_left
  · intro w hSw; (try dsimp only at hSw); go_simp; (try with_reducible rfl)
  simp only [Act.put, sIb, sCz, sCs]
  refine tR 5 ?_ (some 10) rfl (by kernel_rfl) rfl (by rfl) ?_ (fun _ _ _ h => h) (by assumption) ?_
  rotate_left
  · intro w hSw; (try dsimp only at hSw); go_simp; (try with_reducible rfl)
  simp only [Act.put, sIb, sCz, sCs]
  refine tR 6 ?_ (some 11) rfl (by kernel_rfl) rfl (by rfl) ?_ (fun _ _ _ h => h) (by assumption) ?_
  rotate_left
  · intro w hSw; (try dsimp only at hSw); have hc0 := cell_later hSw x0; have hc1 := cell_later hSw x1; have hc2 := cell_later hSw x2; have hc3 := cell_later hSw x3; have hc4 := cell_later hSw x4; have hc5 := cell_later hSw x5; have hc6 := cell_later hSw x6; go_simp; (try with_reducible rfl)
  simp only [Act.put, sIb, sCz, sCs]
  refine wpAnyH_ready (rs := [7]) (by kernel_rfl) (by simp) ?_
  refine AllReadyH.cons rfl (fun K hK => ?_) (AllReadyH.nil)
  go_simp
  go_at_call 46
  refine (q3.out _).mono ?_
  rintro e D3 ⟨y3, z3, rfl, bj⟩
  refine hK.out _ _ (kb2.trans (bj.mono kb2.size)) (fun hHeld => ?_)
  clear hK K
  try simp only [Act.put, sIb, sCz, sCs]
  have kb3 := kb2.trans (bj.mono kb2.size)
  clear bj
  refine tR 8 ?_ (some 13) rfl (by kernel_rfl) rfl (by rfl) ?_ (fun _ _ _ h => h) (by assumption) ?_
  rotate_left
  · intro w hSw; (try dsimp only at hSw); go_simp; rw [fld0]; rfl
  simp only [Act.put, sIb, sCz, sCs]
  refine tR 9 ?_ (some 14) rfl (by kernel_rfl) rfl (by rfl) ?_ (fun _ _ _ h => h) (by assumption) ?_
  rotate_left
  · intro w hSw; (try dsimp only at hSw); go_simp; (try with_reducible rfl)
  simp only [Act.put, sIb, sCz, sCs]
  refine tR 10 ?_ (some 15) rfl (by kernel_rfl) rfl (by rfl) ?_ (fun _ _ _ h => h) (by assumption) ?_
  rotate_left
  · intro w hSw; (try dsimp only at hSw); go_simp; (try with_reducible rfl)
  simp only [Act.put, sIb, sCz, sCs]
  refine tR 11 ?_ (some 16) rfl (by kernel_rfl) rfl (by rfl) ?_ (fun _ _ _ h => h) (by assumption) ?_
  rotate_left
  · intro w hSw; (try dsimp only at hSw); go_simp; (try with_reducible rfl)
  simp only [Act.put, sIb, sCz, sCs]
  refine tR 12 ?_ (some 17) rfl (by kernel_rfl) rfl (by rfl) ?_ (fun _ _ _ h => h) (by assumption) ?_
  rotate_left
  · intro w hSw; (try dsimp only at hSw); have hc0 := cell_later hSw x0; have hc1 := cell_later hSw x1; have hc2 := cell_later hSw x2; have hc3 := cell_later hSw x3; have hc4 := cell_later hSw x4; have hc5 := cell_later hSw x5; have hc6 := cell_later hSw x6; go_simp; (try with_reducible rfl)
  simp only [Act.put, sIb, sCz, sCs]
  refine wpAnyH_ready (rs := [13]) (by kernel_rfl) (by simp) ?_
  refine AllReadyH.cons rfl (fun K hK => ?_) (AllReadyH.nil)
  go_simp
  go_at_call 48
  refine (low64_any _).mono ?_
  rintro e D4 ⟨rfl, bj⟩
  refine hK.out _ _ (kb3.trans (bj.mono kb3.size)) (fun hHeld => ?_)
  clear hK K
  try simp only [Act.put, sIb, sCz, sCs]
  have kb4 := kb3.trans (bj.mono kb3.size)
  clear bj
  refine wpAnyH_ready (rs := [14]) (by kernel_rfl) (by simp) ?_
  refine AllReadyH.cons rfl (fun K hK => ?_) (AllReadyH.nil)
  go_simp
  go_at_call 47
  refine (q4.out _).mono ?_
  rintro e D5 ⟨rfl, bj⟩
  refine hK.out _ _ (kb4.trans (bj.mono kb4.size)) (fun hHeld => ?_)
  clear hK K
  try simp only [Act.put, sIb, sCz, sCs]
  have kb5 := kb4.trans (bj.mono kb4.size)
  clear bj
  refine tR 15 ?_ (some 20) rfl (by kernel_rfl) rfl (by rfl) ?_ (fun _ _ _ h => h) (by assumption) ?_
  rotate_left
  · intro w hSw; (try dsimp only at hSw); go_simp; (try with_reducible rfl)
  simp only [Act.put, sIb, sCz, sCs]
  refine tR 16 ?_ (some 21) rfl (by kernel_rfl) rfl (by rfl) ?_ (fun _ _ _ h => h) (by assumption) ?_
  rotate_left
  · intro w hSw; (try dsimp only at hSw); go_simp; (try with_reducible rfl)
  simp only [Act.put, sIb, sCz, sCs]
  refine wpAnyH_done (by kernel_rfl) ?_ _
  have k8 := h_ (B0.out.trans ((kb5).mono B0.out.size))
  obtain ⟨x0, x1, x2, x3, x4, x5, x6, -⟩ := (A0.out.later kb5).k7
  go_wp2_with (go_at_call 49; refine (q5.out _ k8.out).mono ?_; rintro e w9 ⟨r9, rfl, b9⟩; have k9 := h_ (k8.out.trans (b9.mono k8.out.size)); clear b9)
  go_ret
  exact ⟨by first | rfl | simp, k9.out⟩
theorem iright_any (k t : Int) (a b c d : Nat) (u : Value) (L : List A11) (w : World) (hL : ActAt w u L) (hI : IFit (k, t, (a, b), (c, d), L)) :
    Calls Tryz.prog 19 #[.agg #[.int .i64 k, .int .i64 t, .int .u64 (a : Int), .int .u64 (b : Int), .int .u64 (c : Int), .int .u64 (d : Int), u]] w fun e w' => e = .returned (.bool (iR (k, t, (a, b), (c, d), L))) ∧ Below w.heap.size w w' := by
  obtain ⟨ha, hb, hc, hd, hF⟩ := hI
  obtain ⟨⟨k2, t2, ⟨a2, b2⟩, ⟨c2, d2⟩, K⟩, hO⟩ : ∃ O, ownI (k, t, (a, b), (c, d), L) = O := ⟨_, rfl⟩
  obtain ⟨B, er, hE⟩ := encR_some L
  have q1 := h_ (fun W (hW : Below w.heap.size w W) => iown_any k t a b c d u L W (hL.later hW) k2 t2 a2 b2 c2 d2 K hO)
  have q2 := fun u2 W (hW : Below w.heap.size w W) (h2 : ActAt W u2 K) => isame_any k t a b c d u L k2 t2 a2 b2 c2 d2 u2 K W (hL.later hW) h2
  have q3 := fun W => ichk_any k t a b c d u L W ha hb hc hd
  have q4 := fun W => iwithin_any c d LW64.1 LW64.2 W hc hd (by decide) (by decide)
  have q5 : Hid (∀ W, Below w.heap.size w W → Calls Tryz.prog 49 #[u] W fun e w' => ∃ r, e = .returned (.tuple #[r, .int .i64 er]) ∧ Below W.heap.size W w') := h_ (fun W hW => (le_all (hL.later hW) hF hE).mono (by rintro e w' ⟨r, rfl, -, hb⟩; exact ⟨r, rfl, hb⟩))
  have hR : iR (k, t, (a, b), (c, d), L) = (sameI (k, t, (a, b), (c, d), L) (k2, t2, (a2, b2), (c2, d2), K) && (chkI (k, t, (a, b), (c, d), L) && (wi c d LW64.1 LW64.2 && aOk L))) := by unfold iR; rw [hO]; rfl
  rw [hR]
  have hA : aOk L = decide (er = 0) := by
    rcases hE with ⟨h1, h2, -, rfl⟩ | ⟨h, -, rfl⟩
    · unfold aOk; rw [h2, decide_eq_true h1]; rfl
    · have : aOk L = false := by
        unfold aOk
        cases hh : L.all artO
        · simp
        · have : ¬ L.length ≤ 100 := fun h1 => h ⟨h1, hh⟩
          rw [decide_eq_false this]; rfl
      rw [this]; rfl
  have her : er = 0 ∨ er = 1 := by rcases hE with ⟨-, -, -, h⟩ | ⟨-, -, h⟩ <;> omega
  rw [hA]
  cases e2 : sameI (k, t, (a, b), (c, d), L) (k2, t2, (a2, b2), (c2, d2), K)
  · rw [e2] at q2
    exact irig_A k t a b c d u w k2 t2 a2 b2 c2 d2 K _ _ er q1 (h_ q2) (h_ q3) (h_ q4) q5
  · rw [e2] at q2
    cases e3 : chkI (k, t, (a, b), (c, d), L)
    · rw [e3] at q3
      exact irig_B k t a b c d u w k2 t2 a2 b2 c2 d2 K true _ er q1 (h_ q2) (h_ q3) (h_ q4) q5
    · rw [e3] at q3
      cases e4 : wi c d LW64.1 LW64.2
      · rw [e4] at q4
        exact irig_C k t a b c d u w k2 t2 a2 b2 c2 d2 K true true er q1 (h_ q2) (h_ q3) (h_ q4) q5
      · rw [e4] at q4
        rcases her with rfl | rfl
        · exact irig_D k t a b c d u w k2 t2 a2 b2 c2 d2 K true true 0 q1 (h_ q2) (h_ q3) (h_ q4) q5
        · exact irig_E k t a b c d u w k2 t2 a2 b2 c2 d2 K true true 1 q1 (h_ q2) (h_ q3) (h_ q4) q5
end Go.Proofs.YthhijfphfcmniaaGreat
