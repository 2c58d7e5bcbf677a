import Derived.Test.YtlincickgleddaaRf
import Derived.Test.YtlincickgleddaaFa
import Derived.Deep.RegionHeld3
import Derived.Deep.RegionWith
import Derived.Deep.MidRow
import Derived.Deep.Cut
namespace Go.Proofs.Ytlincickgleddaa
open Go Go.RowKit
set_option linter.unusedVariables false
set_option linter.unusedSimpArgs false

theorem over4_zero (q : Q4) (h1 : q.2.2.1 < 18446744073709551616) (h2 : q.2.2.2 < 18446744073709551616) : over4 q (0, 0, 0, 0) = clean4 q := by
  unfold over4 clean4
  simp [andn_zero _ h1, andn_zero _ h2]
theorem cq_zero (k : Nat) : cq z24q k = (0, 0, 0, 0) := by
  unfold cq z24q
  rw [List.getD_eq_getElem?_getD, List.getElem?_replicate]
  split <;> rfl
theorem thenC_zero {l : List Q4} (hl : isC l) (i : Int) (q : Q4) (hi : ¬ (0 ≤ i ∧ i < 24)) : thenC l z24q = setC l i q := by
  unfold thenC setC
  apply List.map_congr_left
  intro k hk
  have hk := List.mem_range.1 hk
  obtain ⟨-, -, h1, h2⟩ := hl.cq k
  rw [if_neg (by omega), cq_zero, over4_zero _ h1 h2]
theorem thenC_set {l : List Q4} (hl : isC l) (j : Nat) (q : Q4) (hj : j < 24) : thenC l (z24q.set j q) = setC l (j : Int) q := by
  unfold thenC setC
  apply List.map_congr_left
  intro k hk
  have hk := List.mem_range.1 hk
  by_cases e : k = j
  · subst e
    rw [if_pos rfl, show cq (z24q.set k q) k = q from cq_at (by rw [List.getElem?_set_self (by rw [z24q_len]; exact hj)])]
  · obtain ⟨-, -, h1, h2⟩ := hl.cq k
    have e2 : cq (z24q.set j q) k = (0, 0, 0, 0) := by
      rw [← cq_zero k]
      unfold cq
      rw [List.getD_eq_getElem?_getD, List.getD_eq_getElem?_getD, List.getElem?_set_ne (by omega)]
    rw [if_neg (by omega), e2, over4_zero _ h1 h2]
theorem isC_set {l : List Q4} (h : isC l) (j x y z t : Nat) (hx : x < 18446744073709551616) (hy : y < 18446744073709551616) (hz : z < 18446744073709551616) (ht : t < 18446744073709551616) : isC (l.set j (x, y, z, t)) :=
  ⟨by rw [List.length_set]; exact h.1, fun p hp => by
    rcases List.mem_or_eq_of_mem_set hp with hp | rfl
    · exact h.2 p hp
    · exact ⟨hx, hy, hz, ht⟩⟩
theorem fok_iff (i : Int) : fok i = true ↔ 0 ≤ i ∧ i < 24 := by unfold fok; simp

set_option maxRecDepth 100000 in
set_option maxHeartbeats 2000000 in
theorem rrwset_any (l : List Q4) (i : Int) (x y z t : Nat) (hl : isC l) (w : World) (hx : x < 18446744073709551616) (hy : y < 18446744073709551616) (hz : z < 18446744073709551616) (ht : t < 18446744073709551616) :
    Calls Try.prog 22 #[cv l, .int .i64 i, wd x y, wd z t] w fun e w' => e = .returned (cv (setC l i (x, y, z, t))) ∧ Below w.heap.size w w' := by
  have A0 := ((((AB.at0 w 28 (tdc l)).alloc (.cells #[.int .u64 (x : Int), .int .u64 (y : Int)] 24)).alloc (.cells #[.int .u64 (z : Int), .int .u64 (t : Int)] 24)).alloc (.cells (tdc z24q).toArray 28)).alloc (.cells (tdc z24q).toArray 28)
  have X1 := (((AB.at1 w (.cells (tdc l).toArray 28) 24 [.int .u64 (x : Int), .int .u64 (y : Int)]).alloc (.cells #[.int .u64 (z : Int), .int .u64 (t : Int)] 24)).alloc (.cells (tdc z24q).toArray 28)).alloc (.cells (tdc z24q).toArray 28)
  have Y1 := ((AB.at2 w (.cells (tdc l).toArray 28) (.cells #[.int .u64 (x : Int), .int .u64 (y : Int)] 24) 24 [.int .u64 (z : Int), .int .u64 (t : Int)]).alloc (.cells (tdc z24q).toArray 28)).alloc (.cells (tdc z24q).toArray 28)
  have Z0 := (AB.at3 w (.cells (tdc l).toArray 28) (.cells #[.int .u64 (x : Int), .int .u64 (y : Int)] 24) (.cells #[.int .u64 (z : Int), .int .u64 (t : Int)] 24) 28 (tdc z24q)).alloc (.cells (tdc z24q).toArray 28)
  have X0 := hide_ (AB.at4 w (.cells (tdc l).toArray 28) (.cells #[.int .u64 (x : Int), .int .u64 (y : Int)] 24) (.cells #[.int .u64 (z : Int), .int .u64 (t : Int)] 24) (.cells (tdc z24q).toArray 28) 28 (tdc z24q))
  have B0 := below5 w (.cells (tdc l).toArray 28) (.cells #[.int .u64 (x : Int), .int .u64 (y : Int)] 24) (.cells #[.int .u64 (z : Int), .int .u64 (t : Int)] 24) (.cells (tdc z24q).toArray 28) (.cells (tdc z24q).toArray 28)
  have hL := hide_ hl.1
  have HR := hide_ (show (setC l i (x, y, z, t)).length = 24 from map_len _)
  have A2 := hide_ (A0.row_far (f := (w.heap.size + 1 + 1 + 1 + 1)) (tdc z24q).toArray (by omega))
  have X3 := X1.row_far (f := (w.heap.size + 1 + 1 + 1 + 1)) (tdc z24q).toArray (by omega)
  have Y3 := Y1.row_far (f := (w.heap.size + 1 + 1 + 1 + 1)) (tdc z24q).toArray (by omega)
  have Z2 := hide_ (Z0.row_far (f := (w.heap.size + 1 + 1 + 1 + 1)) (tdc z24q).toArray (by omega))
  have X2 := hide_ (X0.out.row (cs' := tdc z24q))
  have B2 := hide_ (B0.trans (below_row _ (w.heap.size + 1 + 1 + 1 + 1) _ (tdc z24q).toArray (by omega)))
  obtain ⟨x0, x1, -⟩ := X3.two
  obtain ⟨y0, y1, -⟩ := Y3.two
  clear A0 X1 Y1 Z0 B0 X3 Y3
  unfold wd at *
  obtain ⟨hz0, -⟩ := zero_of_info zR'
  have q0 := hide_ (fun w => rfright_any i w)
  by_cases hi : 0 ≤ i ∧ i < 24
  · have hok : fok i = true := (fok_iff i).2 hi
    rw [hok] at q0
    obtain ⟨j, rfl⟩ : ∃ j : Nat, i = (j : Int) := ⟨i.toNat, by omega⟩
    obtain ⟨g1, g2⟩ := hi
    have hj : j < 24 := by omega
    have q := fun w => rrwthen_any l (z24q.set j (x, y, z, t)) hl (isC_set z24q_isC j x y z t hx hy hz ht) w
    rw [thenC_set hl j _ hj] at q
    generalize setC l (j : Int) (x, y, z, t) = r at *
    have q := hide_ q
    have HX : Hid ((z24q.set j (x, y, z, t)).length = 24) := hide_ (by rw [List.length_set]; exact z24q_len)
    unfold cv at *
    clear hl hx hy hz ht hok
    have hzq : z24q[j]? = some (0, 0, 0, 0) := by unfold z24q; rw [List.getElem?_replicate, if_pos hj]
    obtain ⟨s0, s1, s2, s3, s4, s5, s6, s7⟩ := X2.out.quad hzq
    have HZQ := hide_ hzq
    clear hzq
    go_enter Try.func22, Try.ntmps22
    go_upto_region 4 with (first | (refine wpList_storeA rfl (.tmp 9) (.tmp 10) rfl (w.heap.size + 1 + 1 + 1 + 1) (by simp [Act.eval, Act.put]) (tdc z24q) (tdc z24q) rfl (szR z24q_len) (tdc_one _) (by simp [Act.eval, Act.put]) X0.out ?_) | (go_at_call 43; refine (q0.out _).mono ?_; rintro e w1 ⟨rfl, rfl⟩))
    have A3 := hide_ ((((A2.out.far (f := (w.heap.size + 1 + 1 + 1 + 1)) (o := j * 4) (.int .u64 (x : Int)) (by omega)).far (f := (w.heap.size + 1 + 1 + 1 + 1)) (o := j * 4 + 1) (.int .u64 (y : Int)) (by omega)).far (f := (w.heap.size + 1 + 1 + 1 + 1)) (o := j * 4 + 2) (.int .u64 (z : Int)) (by omega)).far (f := (w.heap.size + 1 + 1 + 1 + 1)) (o := j * 4 + 3) (.int .u64 (t : Int)) (by omega))
    have Z3 := hide_ ((((Z2.out.far (f := (w.heap.size + 1 + 1 + 1 + 1)) (o := j * 4) (.int .u64 (x : Int)) (by omega)).far (f := (w.heap.size + 1 + 1 + 1 + 1)) (o := j * 4 + 1) (.int .u64 (y : Int)) (by omega)).far (f := (w.heap.size + 1 + 1 + 1 + 1)) (o := j * 4 + 2) (.int .u64 (z : Int)) (by omega)).far (f := (w.heap.size + 1 + 1 + 1 + 1)) (o := j * 4 + 3) (.int .u64 (t : Int)) (by omega))
    have X4 := hide_ (X2.out.setq j x y z t)
    have B3 := hide_ (below_fillq (g := (w.heap.size + 1 + 1 + 1 + 1)) B2.out (by omega) (j * 4) (j * 4 + 1) (j * 4 + 2) (j * 4 + 3) (.int .u64 (x : Int)) (.int .u64 (y : Int)) (.int .u64 (z : Int)) (.int .u64 (t : Int)))
    clear A2 Z2 X2 B2
    have A2 := A3
    have Z2 := Z3
    have X2 := X4
    have B2 := B3
    clear A3 Z3 X4 B3 X0 x0 x1 y0 y1 s0 s1 s2 s3 s4 s5 s6 s7 HZQ
    generalize ((((((((((w.alloc (.cells (tdc l).toArray 28)).alloc (.cells #[.int .u64 (x : Int), .int .u64 (y : Int)] 24)).alloc (.cells #[.int .u64 (z : Int), .int .u64 (t : Int)] 24)).alloc (.cells (tdc z24q).toArray 28)).alloc (.cells (tdc z24q).toArray 28)).setRow (w.heap.size + 1 + 1 + 1 + 1) (tdc z24q).toArray).setCell ⟨(w.heap.size + 1 + 1 + 1 + 1), j * 4, none⟩ (.int .u64 (x : Int))).setCell ⟨(w.heap.size + 1 + 1 + 1 + 1), j * 4 + 1, none⟩ (.int .u64 (y : Int))).setCell ⟨(w.heap.size + 1 + 1 + 1 + 1), j * 4 + 2, none⟩ (.int .u64 (z : Int))).setCell ⟨(w.heap.size + 1 + 1 + 1 + 1), j * 4 + 3, none⟩ (.int .u64 (t : Int))) = V at *
    go_wp2_with (first | (refine wpList_loadA Try.underlying28 rfl (.tmp 4) rfl w.heap.size (by simp [Act.eval, Act.put]) (tdc l) (szR hL.out) A2.out ?_) | (refine wpList_loadA Try.underlying28 rfl (.tmp 9) rfl (w.heap.size + 1 + 1 + 1 + 1) (by simp [Act.eval, Act.put]) (tdc (z24q.set j (x, y, z, t))) (szR HX.out) X2.out ?_) | (go_at_call 13; refine (q.out _).mono ?_; rintro e w6 ⟨rfl, b6⟩; have Z6 := hide_ (Z2.out.later b6)) | (refine wpList_storeA rfl (.tmp 8) (.tmp 20) rfl (w.heap.size + 1 + 1 + 1) (by simp [Act.eval, Act.put]) (tdc z24q) (tdc r) (by rw [tdc_length, tdc_length, HR.out, z24q_len]) (szR HR.out) (tdc_one _) (by simp [Act.eval, Act.put]) Z6.out ?_))
    exact bodyPost_ret (results_A Try.underlying28 Try.results22 _ _ (w.heap.size + 1 + 1 + 1) (tdc r) (szR HR.out) rfl Z6.out.row) rfl ⟨rfl, (B2.out.trans (b6.mono B2.out.size)).trans (below_row _ _ _ _ (by omega))⟩
  · have hok : fok i = false := by
      rw [← Bool.not_eq_true, fok_iff]; exact hi
    rw [hok] at q0
    have q := fun w => rrwthen_any l z24q hl z24q_isC w
    rw [thenC_zero hl i (x, y, z, t) hi] at q
    generalize setC l i (x, y, z, t) = r at *
    have q := hide_ q
    unfold cv at *
    clear hl hx hy hz ht hok hi
    go_enter Try.func22, Try.ntmps22
    go_wp2_with (first | (refine wpList_storeA rfl (.tmp 9) (.tmp 10) rfl (w.heap.size + 1 + 1 + 1 + 1) (by simp [Act.eval, Act.put]) (tdc z24q) (tdc z24q) rfl (szR z24q_len) (tdc_one _) (by simp [Act.eval, Act.put]) X0.out ?_) | (go_at_call 43; refine (q0.out _).mono ?_; rintro e w1 ⟨rfl, rfl⟩) | (refine wpList_loadA Try.underlying28 rfl (.tmp 4) rfl w.heap.size (by simp [Act.eval, Act.put]) (tdc l) (szR hL.out) A2.out ?_) | (refine wpList_loadA Try.underlying28 rfl (.tmp 9) rfl (w.heap.size + 1 + 1 + 1 + 1) (by simp [Act.eval, Act.put]) (tdc z24q) (szR z24q_len) X2.out ?_) | (go_at_call 13; refine (q.out _).mono ?_; rintro e w6 ⟨rfl, b6⟩; have Z6 := hide_ (Z2.out.later b6)) | (refine wpList_storeA rfl (.tmp 8) (.tmp 20) rfl (w.heap.size + 1 + 1 + 1) (by simp [Act.eval, Act.put]) (tdc z24q) (tdc r) (by rw [tdc_length, tdc_length, HR.out, z24q_len]) (szR HR.out) (tdc_one _) (by simp [Act.eval, Act.put]) Z6.out ?_))
    exact bodyPost_ret (results_A Try.underlying28 Try.results22 _ _ (w.heap.size + 1 + 1 + 1) (tdc r) (szR HR.out) rfl Z6.out.row) rfl ⟨rfl, (B2.out.trans (b6.mono B2.out.size)).trans (below_row _ _ _ _ (by omega))⟩


end Go.Proofs.Ytlincickgleddaa
