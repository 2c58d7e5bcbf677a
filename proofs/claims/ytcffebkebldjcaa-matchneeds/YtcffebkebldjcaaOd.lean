import Derived.Test.YtcffebkebldjcaaOa
import Derived.Deep.RegionHeld3
import Derived.Deep.RegionWith
import Derived.Deep.MidRow
import Derived.Deep.Cut
namespace Go.Proofs.Ytcffebkebldjcaa
open Go Go.RowKit
set_option linter.unusedVariables false
set_option linter.unusedSimpArgs false

theorem kRt3 {p0 p1 p2 : Addr} {x0 x1 x2 : Value} {w0 wa wb : World} {r : Nat} {ty : TypeId} (k : Below wa.heap.size wa wb) (h : wa.cell? p0 = some x0 ∧ wa.cell? p1 = some x1 ∧ wa.cell? p2 = some x2 ∧ Room4 wa r ty ∧ Below w0.heap.size w0 wa) :
    wb.cell? p0 = some x0 ∧ wb.cell? p1 = some x1 ∧ wb.cell? p2 = some x2 ∧ Room4 wb r ty ∧ Below w0.heap.size w0 wb :=
  ⟨cell_later k h.1, cell_later k h.2.1, cell_later k h.2.2.1, h.2.2.2.1.later k, h.2.2.2.2.trans (k.mono h.2.2.2.2.size)⟩
theorem kSt3 {p0 p1 p2 : Addr} {x0 x1 x2 y0 y1 y2 y3 : Value} {w0 wa : World} {r : Nat} {ty : TypeId} (h : wa.cell? p0 = some x0 ∧ wa.cell? p1 = some x1 ∧ wa.cell? p2 = some x2 ∧ Room4 wa r ty ∧ Below w0.heap.size w0 wa) (hr : w0.heap.size ≤ r) (h0 : r ≠ p0.block) (h1 : r ≠ p1.block) (h2 : r ≠ p2.block) :
    ((((wa.setCell ⟨r, 0, none⟩ y0).setCell ⟨r, 1, none⟩ y1).setCell ⟨r, 2, none⟩ y2).setCell ⟨r, 3, none⟩ y3).cell? p0 = some x0 ∧ ((((wa.setCell ⟨r, 0, none⟩ y0).setCell ⟨r, 1, none⟩ y1).setCell ⟨r, 2, none⟩ y2).setCell ⟨r, 3, none⟩ y3).cell? p1 = some x1 ∧ ((((wa.setCell ⟨r, 0, none⟩ y0).setCell ⟨r, 1, none⟩ y1).setCell ⟨r, 2, none⟩ y2).setCell ⟨r, 3, none⟩ y3).cell? p2 = some x2 ∧ Room4 ((((wa.setCell ⟨r, 0, none⟩ y0).setCell ⟨r, 1, none⟩ y1).setCell ⟨r, 2, none⟩ y2).setCell ⟨r, 3, none⟩ y3) r ty ∧ Below w0.heap.size w0 ((((wa.setCell ⟨r, 0, none⟩ y0).setCell ⟨r, 1, none⟩ y1).setCell ⟨r, 2, none⟩ y2).setCell ⟨r, 3, none⟩ y3) :=
  ⟨(cell_fill h0 _ _ _ _).trans h.1, (cell_fill h1 _ _ _ _).trans h.2.1, (cell_fill h2 _ _ _ _).trans h.2.2.1, ⟨_, _, _, _, h.2.2.2.1.fill _ _ _ _⟩, below_fill h.2.2.2.2 hr _ _ _ _⟩
set_option maxRecDepth 100000 in
set_option maxHeartbeats 2000000 in
theorem otern_any (f : Int) (m : Bool) (a b c d : Nat) (w : World) :
    Calls Try.prog 44 #[ov f m a b c d] w fun e w' => e = .returned (match fok f, m with | false, _ => td 0 0 0 0 | true, true => td a b c d | true, false => td a b (LH f) (LL f)) ∧ Below w.heap.size w w' := by
  have A0 := hide_ ((AB.at0 w 51 [.int .i64 f, .bool m, .int .u64 (a : Int), .int .u64 (b : Int), .int .u64 (c : Int), .int .u64 (d : Int)]).alloc (.cells #[.int .u64 (0 : Int), .int .u64 (0 : Int), .int .u64 (0 : Int), .int .u64 (0 : Int)] 37))
  have Z0 := hide_ (AB.at1 w (.cells #[.int .i64 f, .bool m, .int .u64 (a : Int), .int .u64 (b : Int), .int .u64 (c : Int), .int .u64 (d : Int)] 51) 37 [.int .u64 (0 : Int), .int .u64 (0 : Int), .int .u64 (0 : Int), .int .u64 (0 : Int)])
  have B0 := hide_ (below2 w (.cells #[.int .i64 f, .bool m, .int .u64 (a : Int), .int .u64 (b : Int), .int .u64 (c : Int), .int .u64 (d : Int)] 51) (.cells #[.int .u64 (0 : Int), .int .u64 (0 : Int), .int .u64 (0 : Int), .int .u64 (0 : Int)] 37))
  have q1 := hide_ (fun w => fright_any f w)
  have q2 := hide_ (fun w => fbits_any f w)
  have q3 := hide_ (fun w => lowf f w)
  generalize fok f = z at *
  generalize LH f = p1 at *
  generalize LL f = p2 at *
  generalize ((fbits f : Nat) : Int) = n at *
  obtain ⟨c0, c1, c2, c3, c4, c5, -⟩ := A0.out.six
  obtain ⟨t0, t1, t2, t3, t4, t5, t6, t7⟩ := Z0.out.four
  unfold ov td wd at *
  cases z
  · have Z := Z0.out.room.fill (.int .u64 (0 : Int)) (.int .u64 (0 : Int)) (.int .u64 (0 : Int)) (.int .u64 (0 : Int))
    obtain ⟨h0, h1, h2, h3, -⟩ := Z.four
    go_enter Try.func44, Try.ntmps44
    go_wp2_with (go_at_call 43; refine (q1.out _).mono ?_; rintro e w1 ⟨rfl, rfl⟩)
    exact bodyPost_ret (v := .agg #[.int .u64 (0 : Int), .int .u64 (0 : Int), .int .u64 (0 : Int), .int .u64 (0 : Int)]) (by simp [results, Try.results44, go_sem]) rfl ⟨rfl, by go_grown⟩
  · cases m
    · clear t0 t1 t2 t3 t4 t5 t6 t7
      go_enter Try.func44, Try.ntmps44
      go_wp2_with (go_at_call 43; refine (q1.out _).mono ?_; rintro e w1 ⟨rfl, rfl⟩)
      generalize ((w.alloc (.cells #[.int .i64 f, .bool false, .int .u64 (a : Int), .int .u64 (b : Int), .int .u64 (c : Int), .int .u64 (d : Int)] 51)).alloc (.cells #[.int .u64 (0 : Int), .int .u64 (0 : Int), .int .u64 (0 : Int), .int .u64 (0 : Int)] 37)) = W at *
      go_region_held3 (fun w' => w'.cell? ⟨w.heap.size, 2, none⟩ = some (.int .u64 (a : Int)) ∧ w'.cell? ⟨w.heap.size, 3, none⟩ = some (.int .u64 (b : Int)) ∧ w'.cell? ⟨w.heap.size, 0, none⟩ = some (.int .i64 f) ∧ Room4 w' (w.heap.size + 1) 37 ∧ Below w.heap.size w w')
        (first | (with_reducible exact kRt3 b3 (by assumption)) | (with_reducible exact kRt3 b2 (by assumption)) | (with_reducible exact kSt3 (by assumption) (by omega) (by dsimp only; omega) (by dsimp only; omega) (by dsimp only; omega)) | (exact ⟨c2, c3, c0, Z0.out.room, B0.out.drew⟩))
        (first | (go_at_call 29; refine (q2.out _).mono ?_; rintro e w2 ⟨rfl, b2⟩) | (go_at_call 77; refine (q3.out _).mono ?_; rintro e w3 ⟨rfl, b3⟩; have hS4 := kRt3 b3 (by assumption); obtain ⟨z0, z1, z2, z3, e0, e1, e2, e3, f0, f1, f2, f3⟩ := hS4.2.2.2.1.cells))
      all_goals
        have Z := hS4.2.2.2.1.fill (.int .u64 (a : Int)) (.int .u64 (b : Int)) (.int .u64 (p1 : Int)) (.int .u64 (p2 : Int))
        have bb := below_fill (g := w.heap.size + 1) hS4.2.2.2.2 (by omega) (.int .u64 (a : Int)) (.int .u64 (b : Int)) (.int .u64 (p1 : Int)) (.int .u64 (p2 : Int))
        obtain ⟨h0, h1, h2, h3, -⟩ := Z.four
        clear hS4 e0 e1 e2 e3 f0 f1 f2 f3
        rename_i hH
        clear hH
        go_wp2_with fail
        exact bodyPost_ret (v := .agg #[.int .u64 (a : Int), .int .u64 (b : Int), .int .u64 (p1 : Int), .int .u64 (p2 : Int)]) (by simp [results, Try.results44, go_sem, h0, h1, h2, h3]) rfl ⟨rfl, bb⟩
    · have Z := Z0.out.room.fill (.int .u64 (a : Int)) (.int .u64 (b : Int)) (.int .u64 (c : Int)) (.int .u64 (d : Int))
      obtain ⟨h0, h1, h2, h3, -⟩ := Z.four
      go_enter Try.func44, Try.ntmps44
      go_wp2_with (go_at_call 43; refine (q1.out _).mono ?_; rintro e w1 ⟨rfl, rfl⟩)
      exact bodyPost_ret (v := .agg #[.int .u64 (a : Int), .int .u64 (b : Int), .int .u64 (c : Int), .int .u64 (d : Int)]) (by simp [results, Try.results44, go_sem]) rfl ⟨rfl, by go_grown⟩

set_option maxRecDepth 100000 in
set_option maxHeartbeats 2000000 in
theorem rotern_any (f : Int) (m : Bool) (a b c d : Nat) (w : World) :
    Calls Try.prog 46 #[ov f m a b c d] w fun e w' => e = .returned (match fok f, m with | false, _ => td 0 0 0 0 | true, true => td a b c d | true, false => td a b (LH f) (LL f)) ∧ Below w.heap.size w w' := by
  have A0 := hide_ ((AB.at0 w 51 [.int .i64 f, .bool m, .int .u64 (a : Int), .int .u64 (b : Int), .int .u64 (c : Int), .int .u64 (d : Int)]).alloc (.cells #[.int .u64 (0 : Int), .int .u64 (0 : Int), .int .u64 (0 : Int), .int .u64 (0 : Int)] 37))
  have Z0 := hide_ (AB.at1 w (.cells #[.int .i64 f, .bool m, .int .u64 (a : Int), .int .u64 (b : Int), .int .u64 (c : Int), .int .u64 (d : Int)] 51) 37 [.int .u64 (0 : Int), .int .u64 (0 : Int), .int .u64 (0 : Int), .int .u64 (0 : Int)])
  have B0 := hide_ (below2 w (.cells #[.int .i64 f, .bool m, .int .u64 (a : Int), .int .u64 (b : Int), .int .u64 (c : Int), .int .u64 (d : Int)] 51) (.cells #[.int .u64 (0 : Int), .int .u64 (0 : Int), .int .u64 (0 : Int), .int .u64 (0 : Int)] 37))
  have q1 := hide_ (fun w => rfright_any f w)
  have q2 := hide_ (fun w => rfbits_any f w)
  have q3 := hide_ (fun w => rlowf f w)
  generalize fok f = z at *
  generalize LH f = p1 at *
  generalize LL f = p2 at *
  generalize ((fbits f : Nat) : Int) = n at *
  obtain ⟨c0, c1, c2, c3, c4, c5, -⟩ := A0.out.six
  obtain ⟨t0, t1, t2, t3, t4, t5, t6, t7⟩ := Z0.out.four
  unfold ov td wd at *
  cases z
  · have Z := Z0.out.room.fill (.int .u64 (0 : Int)) (.int .u64 (0 : Int)) (.int .u64 (0 : Int)) (.int .u64 (0 : Int))
    obtain ⟨h0, h1, h2, h3, -⟩ := Z.four
    go_enter Try.func46, Try.ntmps46
    go_wp2_with (go_at_call 45; refine (q1.out _).mono ?_; rintro e w1 ⟨rfl, rfl⟩)
    exact bodyPost_ret (v := .agg #[.int .u64 (0 : Int), .int .u64 (0 : Int), .int .u64 (0 : Int), .int .u64 (0 : Int)]) (by simp [results, Try.results46, go_sem]) rfl ⟨rfl, by go_grown⟩
  · cases m
    · clear t0 t1 t2 t3 t4 t5 t6 t7
      go_enter Try.func46, Try.ntmps46
      go_wp2_with (go_at_call 45; refine (q1.out _).mono ?_; rintro e w1 ⟨rfl, rfl⟩)
      generalize ((w.alloc (.cells #[.int .i64 f, .bool false, .int .u64 (a : Int), .int .u64 (b : Int), .int .u64 (c : Int), .int .u64 (d : Int)] 51)).alloc (.cells #[.int .u64 (0 : Int), .int .u64 (0 : Int), .int .u64 (0 : Int), .int .u64 (0 : Int)] 37)) = W at *
      go_region_held3 (fun w' => w'.cell? ⟨w.heap.size, 2, none⟩ = some (.int .u64 (a : Int)) ∧ w'.cell? ⟨w.heap.size, 3, none⟩ = some (.int .u64 (b : Int)) ∧ w'.cell? ⟨w.heap.size, 0, none⟩ = some (.int .i64 f) ∧ Room4 w' (w.heap.size + 1) 37 ∧ Below w.heap.size w w')
        (first | (with_reducible exact kRt3 b3 (by assumption)) | (with_reducible assumption) | (with_reducible exact kSt3 (by assumption) (by omega) (by dsimp only; omega) (by dsimp only; omega) (by dsimp only; omega)) | (exact ⟨c2, c3, c0, Z0.out.room, B0.out.drew⟩))
        (first | (go_at_call 79; refine (q2.out _).mono ?_; rintro e w2 ⟨rfl, rfl⟩) | (go_at_call 78; refine (q3.out _).mono ?_; rintro e w3 ⟨rfl, b3⟩; have hS4 := kRt3 b3 (by assumption); obtain ⟨z0, z1, z2, z3, e0, e1, e2, e3, f0, f1, f2, f3⟩ := hS4.2.2.2.1.cells))
      all_goals
        have Z := hS4.2.2.2.1.fill (.int .u64 (a : Int)) (.int .u64 (b : Int)) (.int .u64 (p1 : Int)) (.int .u64 (p2 : Int))
        have bb := below_fill (g := w.heap.size + 1) hS4.2.2.2.2 (by omega) (.int .u64 (a : Int)) (.int .u64 (b : Int)) (.int .u64 (p1 : Int)) (.int .u64 (p2 : Int))
        obtain ⟨h0, h1, h2, h3, -⟩ := Z.four
        clear hS4 e0 e1 e2 e3 f0 f1 f2 f3
        rename_i hH
        clear hH
        go_wp2_with fail
        exact bodyPost_ret (v := .agg #[.int .u64 (a : Int), .int .u64 (b : Int), .int .u64 (p1 : Int), .int .u64 (p2 : Int)]) (by simp [results, Try.results46, go_sem, h0, h1, h2, h3]) rfl ⟨rfl, bb⟩
    · have Z := Z0.out.room.fill (.int .u64 (a : Int)) (.int .u64 (b : Int)) (.int .u64 (c : Int)) (.int .u64 (d : Int))
      obtain ⟨h0, h1, h2, h3, -⟩ := Z.four
      go_enter Try.func46, Try.ntmps46
      go_wp2_with (go_at_call 45; refine (q1.out _).mono ?_; rintro e w1 ⟨rfl, rfl⟩)
      exact bodyPost_ret (v := .agg #[.int .u64 (a : Int), .int .u64 (b : Int), .int .u64 (c : Int), .int .u64 (d : Int)]) (by simp [results, Try.results46, go_sem]) rfl ⟨rfl, by go_grown⟩


end Go.Proofs.Ytcffebkebldjcaa
