import Derived.Test.YtlincickgleddaaZz
import Derived.Deep.RegionHeld3
import Derived.Deep.RegionWith
import Derived.Deep.MidRow
namespace Go.Proofs.Ytlincickgleddaa
open Go Go.RowKit
set_option linter.unusedVariables false
set_option linter.unusedSimpArgs false

theorem kR6 {p0 p1 p2 p3 p4 p5 : Addr} {x0 x1 x2 x3 x4 x5 : Value} {w0 wa wb : World} {r : Nat} {ty : TypeId} (k : Below wa.heap.size wa wb) (h : wa.cell? p0 = some x0 ∧ wa.cell? p1 = some x1 ∧ wa.cell? p2 = some x2 ∧ wa.cell? p3 = some x3 ∧ wa.cell? p4 = some x4 ∧ wa.cell? p5 = some x5 ∧ Room4 wa r ty ∧ Below w0.heap.size w0 wa) :
    wb.cell? p0 = some x0 ∧ wb.cell? p1 = some x1 ∧ wb.cell? p2 = some x2 ∧ wb.cell? p3 = some x3 ∧ wb.cell? p4 = some x4 ∧ wb.cell? p5 = some x5 ∧ Room4 wb r ty ∧ Below w0.heap.size w0 wb :=
  ⟨cell_later k h.1, cell_later k h.2.1, cell_later k h.2.2.1, cell_later k h.2.2.2.1, cell_later k h.2.2.2.2.1, cell_later k h.2.2.2.2.2.1, h.2.2.2.2.2.2.1.later k, h.2.2.2.2.2.2.2.trans (k.mono h.2.2.2.2.2.2.2.size)⟩
theorem kS6 {p0 p1 p2 p3 p4 p5 : Addr} {x0 x1 x2 x3 x4 x5 y0 y1 y2 y3 : Value} {w0 wa : World} {r : Nat} {ty : TypeId} (h : wa.cell? p0 = some x0 ∧ wa.cell? p1 = some x1 ∧ wa.cell? p2 = some x2 ∧ wa.cell? p3 = some x3 ∧ wa.cell? p4 = some x4 ∧ wa.cell? p5 = some x5 ∧ Room4 wa r ty ∧ Below w0.heap.size w0 wa) (hr : w0.heap.size ≤ r) (h0 : r ≠ p0.block) (h1 : r ≠ p1.block) (h2 : r ≠ p2.block) (h3 : r ≠ p3.block) (h4 : r ≠ p4.block) (h5 : r ≠ p5.block) :
    ((((wa.setCell ⟨r, 0, none⟩ y0).setCell ⟨r, 1, none⟩ y1).setCell ⟨r, 2, none⟩ y2).setCell ⟨r, 3, none⟩ y3).cell? p0 = some x0 ∧ ((((wa.setCell ⟨r, 0, none⟩ y0).setCell ⟨r, 1, none⟩ y1).setCell ⟨r, 2, none⟩ y2).setCell ⟨r, 3, none⟩ y3).cell? p1 = some x1 ∧ ((((wa.setCell ⟨r, 0, none⟩ y0).setCell ⟨r, 1, none⟩ y1).setCell ⟨r, 2, none⟩ y2).setCell ⟨r, 3, none⟩ y3).cell? p2 = some x2 ∧ ((((wa.setCell ⟨r, 0, none⟩ y0).setCell ⟨r, 1, none⟩ y1).setCell ⟨r, 2, none⟩ y2).setCell ⟨r, 3, none⟩ y3).cell? p3 = some x3 ∧ ((((wa.setCell ⟨r, 0, none⟩ y0).setCell ⟨r, 1, none⟩ y1).setCell ⟨r, 2, none⟩ y2).setCell ⟨r, 3, none⟩ y3).cell? p4 = some x4 ∧ ((((wa.setCell ⟨r, 0, none⟩ y0).setCell ⟨r, 1, none⟩ y1).setCell ⟨r, 2, none⟩ y2).setCell ⟨r, 3, none⟩ y3).cell? p5 = some x5 ∧ Room4 ((((wa.setCell ⟨r, 0, none⟩ y0).setCell ⟨r, 1, none⟩ y1).setCell ⟨r, 2, none⟩ y2).setCell ⟨r, 3, none⟩ y3) r ty ∧ Below w0.heap.size w0 ((((wa.setCell ⟨r, 0, none⟩ y0).setCell ⟨r, 1, none⟩ y1).setCell ⟨r, 2, none⟩ y2).setCell ⟨r, 3, none⟩ y3) :=
  ⟨(cell_fill h0 _ _ _ _).trans h.1, (cell_fill h1 _ _ _ _).trans h.2.1, (cell_fill h2 _ _ _ _).trans h.2.2.1, (cell_fill h3 _ _ _ _).trans h.2.2.2.1, (cell_fill h4 _ _ _ _).trans h.2.2.2.2.1, (cell_fill h5 _ _ _ _).trans h.2.2.2.2.2.1, ⟨_, _, _, _, h.2.2.2.2.2.2.1.fill _ _ _ _⟩, below_fill h.2.2.2.2.2.2.2 hr _ _ _ _⟩

set_option maxRecDepth 100000 in
set_option maxHeartbeats 2000000 in
theorem rwout_any (a b c d x y : Nat) (w : World) (ha : a < 18446744073709551616) (hb : b < 18446744073709551616) (hc : c < 18446744073709551616) (hd : d < 18446744073709551616) (hx : x < 18446744073709551616) (hy : y < 18446744073709551616) :
    Calls Try.prog 27 #[td a b c d, wd x y] w fun e w' => e = .returned (td (a &&& andn c x) (b &&& andn d y) (andn c x) (andn d y)) ∧ Below w.heap.size w w' := by
  have q1 := hide_ (fun w => less_any c d x y w hc hd hx hy)
  have q2 := hide_ (fun w => tclean_any a b (andn c x) (andn d y) w ha hb (tandn_lt _ _ hc) (tandn_lt _ _ hd))
  generalize a &&& andn c x = m1 at *
  generalize b &&& andn d y = m2 at *
  generalize andn c x = p1 at *
  generalize andn d y = p2 at *
  have HA := hide_ (((AB.at0 w 26 [.int .u64 (a : Int), .int .u64 (b : Int), .int .u64 (c : Int), .int .u64 (d : Int)]).alloc (.cells #[.int .u64 (x : Int), .int .u64 (y : Int)] 24)).alloc (.cells #[.int .u64 (0 : Int), .int .u64 (0 : Int), .int .u64 (0 : Int), .int .u64 (0 : Int)] 26))
  have HX := hide_ ((AB.at1 w (.cells #[.int .u64 (a : Int), .int .u64 (b : Int), .int .u64 (c : Int), .int .u64 (d : Int)] 26) 24 [.int .u64 (x : Int), .int .u64 (y : Int)]).alloc (.cells #[.int .u64 (0 : Int), .int .u64 (0 : Int), .int .u64 (0 : Int), .int .u64 (0 : Int)] 26))
  have HZ := hide_ (AB.at2 w (.cells #[.int .u64 (a : Int), .int .u64 (b : Int), .int .u64 (c : Int), .int .u64 (d : Int)] 26) (.cells #[.int .u64 (x : Int), .int .u64 (y : Int)] 24) 26 [.int .u64 (0 : Int), .int .u64 (0 : Int), .int .u64 (0 : Int), .int .u64 (0 : Int)])
  have HB := hide_ (below3 w (.cells #[.int .u64 (a : Int), .int .u64 (b : Int), .int .u64 (c : Int), .int .u64 (d : Int)] 26) (.cells #[.int .u64 (x : Int), .int .u64 (y : Int)] 24) (.cells #[.int .u64 (0 : Int), .int .u64 (0 : Int), .int .u64 (0 : Int), .int .u64 (0 : Int)] 26))
  unfold td at *
  unfold wd at *
  clear ha hb hc hd hx hy
  go_enter Try.func27, Try.ntmps27
  go_wp2_with fail
  generalize (((w.alloc (.cells #[.int .u64 (a : Int), .int .u64 (b : Int), .int .u64 (c : Int), .int .u64 (d : Int)] 26)).alloc (.cells #[.int .u64 (x : Int), .int .u64 (y : Int)] 24)).alloc (.cells #[.int .u64 (0 : Int), .int .u64 (0 : Int), .int .u64 (0 : Int), .int .u64 (0 : Int)] 26)) = W at *
  obtain ⟨o0, o1, o2, o3, -⟩ := HA.out.four
  obtain ⟨o4, o5, -⟩ := HX.out.two
  go_region_held3 (fun w' => w'.cell? ⟨w.heap.size, 0, none⟩ = some (.int .u64 (a : Int)) ∧ w'.cell? ⟨w.heap.size, 1, none⟩ = some (.int .u64 (b : Int)) ∧ w'.cell? ⟨w.heap.size, 2, none⟩ = some (.int .u64 (c : Int)) ∧ w'.cell? ⟨w.heap.size, 3, none⟩ = some (.int .u64 (d : Int)) ∧ w'.cell? ⟨w.heap.size + 1, 0, none⟩ = some (.int .u64 (x : Int)) ∧ w'.cell? ⟨w.heap.size + 1, 1, none⟩ = some (.int .u64 (y : Int)) ∧ Room4 w' (w.heap.size + 1 + 1) 26 ∧ Below w.heap.size w w')
    (first | (with_reducible exact kR6 (by assumption) (by assumption)) | (with_reducible exact kS6 (by assumption) (by omega) (by dsimp only; omega) (by dsimp only; omega) (by dsimp only; omega) (by dsimp only; omega) (by dsimp only; omega) (by dsimp only; omega)) | (exact ⟨o0, o1, o2, o3, o4, o5, HZ.out.room, HB.out.drew⟩) | (exact ⟨o0, o1, o2, o3, o4, o5, HZ.out.room, HB.out⟩))
    (first | (go_at_call 32; refine (q1.out _).mono ?_; rintro e w' ⟨rfl, hb⟩) | (go_at_call 33; refine (q2.out _).mono ?_; rintro e w4 ⟨rfl, b4⟩; have hS4 := kR6 b4 (by assumption); obtain ⟨z0, z1, z2, z3, e0, e1, e2, e3, p0, p1', p2', p3⟩ := hS4.2.2.2.2.2.2.1.cells))
  all_goals
    have Z := hS4.2.2.2.2.2.2.1.fill (.int .u64 (m1 : Int)) (.int .u64 (m2 : Int)) (.int .u64 (p1 : Int)) (.int .u64 (p2 : Int))
    have bb := below_fill (g := w.heap.size + 1 + 1) hS4.2.2.2.2.2.2.2 (by omega) (.int .u64 (m1 : Int)) (.int .u64 (m2 : Int)) (.int .u64 (p1 : Int)) (.int .u64 (p2 : Int))
    obtain ⟨h0, h1, h2, h3, -⟩ := Z.four
    clear hS4 e0 e1 e2 e3 p0 p1' p2' p3
    rename_i hH
    clear hH
    go_wp2_with fail
    exact bodyPost_ret (v := .agg #[.int .u64 (m1 : Int), .int .u64 (m2 : Int), .int .u64 (p1 : Int), .int .u64 (p2 : Int)]) (by simp [results, Try.results27, go_sem, h0, h1, h2, h3]) rfl ⟨rfl, bb⟩

set_option maxRecDepth 100000 in
set_option maxHeartbeats 2000000 in
theorem rwover_any (a b c d a2 b2 c2 d2 : Nat) (w : World) (ha : a < 18446744073709551616) (hb : b < 18446744073709551616) (hc : c < 18446744073709551616) (hd : d < 18446744073709551616) (ha2 : a2 < 18446744073709551616) (hb2 : b2 < 18446744073709551616) (hc2 : c2 < 18446744073709551616) (hd2 : d2 < 18446744073709551616) :
    Calls Try.prog 38 #[td a b c d, td a2 b2 c2 d2] w fun e w' => e = .returned (td (a &&& andn c c2 ||| a2 &&& c2) (b &&& andn d d2 ||| b2 &&& d2) (andn c c2 ||| c2) (andn d d2 ||| d2)) ∧ Below w.heap.size w w' := by
  have q5 := hide_ (fun w => rwout_any a b c d c2 d2 w ha hb hc hd hc2 hd2)
  have q6 := hide_ (fun w => tclean_any a2 b2 c2 d2 w ha2 hb2 hc2 hd2)
  have q7 := hide_ (fun w => or_any (a &&& andn c c2) (b &&& andn d d2) (a2 &&& c2) (b2 &&& d2) w (and_lt _ _ ha) (and_lt _ _ hb) (and_lt _ _ ha2) (and_lt _ _ hb2))
  have q8 := hide_ (fun w => or_any (andn c c2) (andn d d2) c2 d2 w (tandn_lt _ _ hc) (tandn_lt _ _ hd) hc2 hd2)
  generalize a &&& andn c c2 ||| a2 &&& c2 = r1 at *
  generalize b &&& andn d d2 ||| b2 &&& d2 = r2 at *
  generalize andn c c2 ||| c2 = r3 at *
  generalize andn d d2 ||| d2 = r4 at *
  generalize a &&& andn c c2 = x1 at *
  generalize b &&& andn d d2 = x2 at *
  generalize a2 &&& c2 = y1 at *
  generalize b2 &&& d2 = y2 at *
  generalize andn c c2 = p1 at *
  generalize andn d d2 = p2 at *
  have KA := hide_ (((AB.at0 w 26 [.int .u64 (a : Int), .int .u64 (b : Int), .int .u64 (c : Int), .int .u64 (d : Int)]).alloc (.cells #[.int .u64 (a2 : Int), .int .u64 (b2 : Int), .int .u64 (c2 : Int), .int .u64 (d2 : Int)] 26)).alloc (.cells #[.int .u64 (0 : Int), .int .u64 (0 : Int), .int .u64 (0 : Int), .int .u64 (0 : Int)] 26))
  have KC := hide_ ((AB.at1 w (.cells #[.int .u64 (a : Int), .int .u64 (b : Int), .int .u64 (c : Int), .int .u64 (d : Int)] 26) 26 [.int .u64 (a2 : Int), .int .u64 (b2 : Int), .int .u64 (c2 : Int), .int .u64 (d2 : Int)]).alloc (.cells #[.int .u64 (0 : Int), .int .u64 (0 : Int), .int .u64 (0 : Int), .int .u64 (0 : Int)] 26))
  have KZ := hide_ (AB.at2 w (.cells #[.int .u64 (a : Int), .int .u64 (b : Int), .int .u64 (c : Int), .int .u64 (d : Int)] 26) (.cells #[.int .u64 (a2 : Int), .int .u64 (b2 : Int), .int .u64 (c2 : Int), .int .u64 (d2 : Int)] 26) 26 [.int .u64 (0 : Int), .int .u64 (0 : Int), .int .u64 (0 : Int), .int .u64 (0 : Int)])
  have KB := hide_ (below3 w (.cells #[.int .u64 (a : Int), .int .u64 (b : Int), .int .u64 (c : Int), .int .u64 (d : Int)] 26) (.cells #[.int .u64 (a2 : Int), .int .u64 (b2 : Int), .int .u64 (c2 : Int), .int .u64 (d2 : Int)] 26) (.cells #[.int .u64 (0 : Int), .int .u64 (0 : Int), .int .u64 (0 : Int), .int .u64 (0 : Int)] 26))
  unfold td at *
  unfold wd at *
  clear ha hb hc hd ha2 hb2 hc2 hd2
  go_enter Try.func38, Try.ntmps38
  go_wp2_with fail
  generalize (((w.alloc (.cells #[.int .u64 (a : Int), .int .u64 (b : Int), .int .u64 (c : Int), .int .u64 (d : Int)] 26)).alloc (.cells #[.int .u64 (a2 : Int), .int .u64 (b2 : Int), .int .u64 (c2 : Int), .int .u64 (d2 : Int)] 26)).alloc (.cells #[.int .u64 (0 : Int), .int .u64 (0 : Int), .int .u64 (0 : Int), .int .u64 (0 : Int)] 26)) = W at *
  obtain ⟨o0, o1, o2, o3, -⟩ := KA.out.four
  obtain ⟨i0, i1, i2, i3, -⟩ := KC.out.four
  go_region_with (first | (go_at_call 27; refine (q5.out _).mono ?_; rintro e w5 ⟨rfl, b5⟩; have k5 : Below W.heap.size W w5 := (Below.refl _ _).drew.trans b5; obtain ⟨h0, h1, h2, h3, -⟩ := (KC.out.later k5).four) | (go_at_call 33; refine (q6.out _).mono ?_; rintro e w6 ⟨rfl, b6⟩; have k6 : Below W.heap.size W w6 := k5.trans (b6.mono k5.size); obtain ⟨j0, j1, j2, j3, j4, j5, j6, j7⟩ := (KA.out.later k6).four; have C6 := hide_ ((KC.out.later k6).far4 (f := w.heap.size) (by omega) (.int .u64 (x1 : Int)) (.int .u64 (x2 : Int)) (.int .u64 (p1 : Int)) (.int .u64 (p2 : Int))); obtain ⟨l0, l1, l2, l3, l4, l5, l6, l7⟩ := C6.out.four))
  all_goals
    have AW := (((KA.out.later k6).room.fill (.int .u64 (x1 : Int)) (.int .u64 (x2 : Int)) (.int .u64 (p1 : Int)) (.int .u64 (p2 : Int))).far4 (f := w.heap.size + 1) (by omega) (.int .u64 (y1 : Int)) (.int .u64 (y2 : Int)) (.int .u64 (c2 : Int)) (.int .u64 (d2 : Int)))
    have CW := C6.out.room.fill (.int .u64 (y1 : Int)) (.int .u64 (y2 : Int)) (.int .u64 (c2 : Int)) (.int .u64 (d2 : Int))
    have ZW := ((KZ.out.later k6).far4 (f := w.heap.size) (by omega) (.int .u64 (x1 : Int)) (.int .u64 (x2 : Int)) (.int .u64 (p1 : Int)) (.int .u64 (p2 : Int))).far4 (f := w.heap.size + 1) (by omega) (.int .u64 (y1 : Int)) (.int .u64 (y2 : Int)) (.int .u64 (c2 : Int)) (.int .u64 (d2 : Int))
    have BW := below_fill (below_fill (g := w.heap.size) (KB.out.trans (k6.mono KB.out.size)) (Nat.le_refl _) (.int .u64 (x1 : Int)) (.int .u64 (x2 : Int)) (.int .u64 (p1 : Int)) (.int .u64 (p2 : Int))) (g := w.heap.size + 1) (Nat.le_succ _) (.int .u64 (y1 : Int)) (.int .u64 (y2 : Int)) (.int .u64 (c2 : Int)) (.int .u64 (d2 : Int))
    clear C6 KA KC KZ KB j0 j1 j2 j3 j4 j5 j6 j7 l0 l1 l2 l3 l4 l5 l6 l7 h0 h1 h2 h3 b6 k6 k5 b5 o0 o1 o2 o3 i0 i1 i2 i3
    generalize ((((((((w6.setCell _ _).setCell _ _).setCell _ _).setCell _ _).setCell _ _).setCell _ _).setCell _ _).setCell _ _) = V at *
    obtain ⟨o0, o1, o2, o3, -⟩ := AW.four
    obtain ⟨i0, i1, i2, i3, -⟩ := CW.four
    have VZ := hide_ ZW
    have VB := hide_ BW
    clear AW CW ZW BW
    go_wp2_with fail
    go_region_held3 (fun w' => w'.cell? ⟨w.heap.size, 0, none⟩ = some (.int .u64 (x1 : Int)) ∧ w'.cell? ⟨w.heap.size, 1, none⟩ = some (.int .u64 (x2 : Int)) ∧ w'.cell? ⟨w.heap.size, 2, none⟩ = some (.int .u64 (p1 : Int)) ∧ w'.cell? ⟨w.heap.size, 3, none⟩ = some (.int .u64 (p2 : Int)) ∧ w'.cell? ⟨w.heap.size + 1, 0, none⟩ = some (.int .u64 (y1 : Int)) ∧ w'.cell? ⟨w.heap.size + 1, 1, none⟩ = some (.int .u64 (y2 : Int)) ∧ w'.cell? ⟨w.heap.size + 1, 2, none⟩ = some (.int .u64 (c2 : Int)) ∧ w'.cell? ⟨w.heap.size + 1, 3, none⟩ = some (.int .u64 (d2 : Int)) ∧ Room4 w' (w.heap.size + 1 + 1) 26 ∧ Below w.heap.size w w')
      (first | (with_reducible exact keepA8R (by assumption) (by assumption)) | (with_reducible exact keepA8R' (by assumption) (by omega) (by dsimp only; omega) (by dsimp only; omega) (by dsimp only; omega) (by dsimp only; omega) (by dsimp only; omega) (by dsimp only; omega) (by dsimp only; omega) (by dsimp only; omega)) | (exact ⟨o0, o1, o2, o3, i0, i1, i2, i3, VZ.out.room, VB.out.drew⟩) | (exact ⟨o0, o1, o2, o3, i0, i1, i2, i3, VZ.out.room, VB.out⟩))
      (first | (go_at_call_of 31 (Value.int IntKind.u64 (x1 : Int)); refine (q7.out _).mono ?_; rintro e w' ⟨rfl, hb⟩) | (go_at_call_of 31 (Value.int IntKind.u64 (p1 : Int)); refine (q8.out _).mono ?_; rintro e w4 ⟨rfl, b4⟩; have hS4 := keepA8R b4 (by assumption); obtain ⟨z0, z1, z2, z3, e0, e1, e2, e3, f0, f1, f2, f3⟩ := hS4.2.2.2.2.2.2.2.2.1.cells))
    have Z := hS4.2.2.2.2.2.2.2.2.1.fill (.int .u64 (r1 : Int)) (.int .u64 (r2 : Int)) (.int .u64 (r3 : Int)) (.int .u64 (r4 : Int))
    have bb := below_fill (g := w.heap.size + 1 + 1) hS4.2.2.2.2.2.2.2.2.2 (by omega) (.int .u64 (r1 : Int)) (.int .u64 (r2 : Int)) (.int .u64 (r3 : Int)) (.int .u64 (r4 : Int))
    obtain ⟨g0, g1, g2, g3, -⟩ := Z.four
    clear hS4 e0 e1 e2 e3 f0 f1 f2 f3
    rename_i hH
    clear hH
    go_wp2_with fail
    exact bodyPost_ret (v := .agg #[.int .u64 (r1 : Int), .int .u64 (r2 : Int), .int .u64 (r3 : Int), .int .u64 (r4 : Int)]) (by simp [results, Try.results38, go_sem, g0, g1, g2, g3]) rfl ⟨rfl, bb⟩


end Go.Proofs.Ytlincickgleddaa
