import Derived.Test.YtabeahglfhhfmaaTg
import Derived.Test.YtabeahglfhhfmaaTh
import Derived.Test.YtabeahglfhhfmaaTi
namespace Go.Proofs.Ytabeahglfhhfmaa
open Go Go.RowKit
set_option linter.unusedVariables false
set_option linter.unusedSimpArgs false

theorem keepA18 {p0 p1 p2 p3 p4 p5 p6 p7 p8 p9 p10 p11 p12 p13 p14 p15 p16 p17 : Addr} {x0 x1 x2 x3 x4 x5 x6 x7 x8 x9 x10 x11 x12 x13 x14 x15 x16 x17 : Value} {w0 wa wb : World} (k : Below wa.heap.size wa wb) (h : wa.cell? p0 = some x0 ∧ wa.cell? p1 = some x1 ∧ wa.cell? p2 = some x2 ∧ wa.cell? p3 = some x3 ∧ wa.cell? p4 = some x4 ∧ wa.cell? p5 = some x5 ∧ wa.cell? p6 = some x6 ∧ wa.cell? p7 = some x7 ∧ wa.cell? p8 = some x8 ∧ wa.cell? p9 = some x9 ∧ wa.cell? p10 = some x10 ∧ wa.cell? p11 = some x11 ∧ wa.cell? p12 = some x12 ∧ wa.cell? p13 = some x13 ∧ wa.cell? p14 = some x14 ∧ wa.cell? p15 = some x15 ∧ wa.cell? p16 = some x16 ∧ wa.cell? p17 = some x17 ∧ Below w0.heap.size w0 wa) :
    wb.cell? p0 = some x0 ∧ wb.cell? p1 = some x1 ∧ wb.cell? p2 = some x2 ∧ wb.cell? p3 = some x3 ∧ wb.cell? p4 = some x4 ∧ wb.cell? p5 = some x5 ∧ wb.cell? p6 = some x6 ∧ wb.cell? p7 = some x7 ∧ wb.cell? p8 = some x8 ∧ wb.cell? p9 = some x9 ∧ wb.cell? p10 = some x10 ∧ wb.cell? p11 = some x11 ∧ wb.cell? p12 = some x12 ∧ wb.cell? p13 = some x13 ∧ wb.cell? p14 = some x14 ∧ wb.cell? p15 = some x15 ∧ wb.cell? p16 = some x16 ∧ wb.cell? p17 = some x17 ∧ Below w0.heap.size w0 wb :=
  ⟨cell_later k h.1, cell_later k h.2.1, cell_later k h.2.2.1, cell_later k h.2.2.2.1, cell_later k h.2.2.2.2.1, cell_later k h.2.2.2.2.2.1, cell_later k h.2.2.2.2.2.2.1, cell_later k h.2.2.2.2.2.2.2.1, cell_later k h.2.2.2.2.2.2.2.2.1, cell_later k h.2.2.2.2.2.2.2.2.2.1, cell_later k h.2.2.2.2.2.2.2.2.2.2.1, cell_later k h.2.2.2.2.2.2.2.2.2.2.2.1, cell_later k h.2.2.2.2.2.2.2.2.2.2.2.2.1, cell_later k h.2.2.2.2.2.2.2.2.2.2.2.2.2.1, cell_later k h.2.2.2.2.2.2.2.2.2.2.2.2.2.2.1, cell_later k h.2.2.2.2.2.2.2.2.2.2.2.2.2.2.2.1, cell_later k h.2.2.2.2.2.2.2.2.2.2.2.2.2.2.2.2.1, cell_later k h.2.2.2.2.2.2.2.2.2.2.2.2.2.2.2.2.2.1, h.2.2.2.2.2.2.2.2.2.2.2.2.2.2.2.2.2.2.trans (k.mono h.2.2.2.2.2.2.2.2.2.2.2.2.2.2.2.2.2.2.size)⟩
theorem iequal_same (v u : Value) (L : List Nat) (w : World) (h : Cells w v 1 L.length (i64s L)) (k : Cells w u 1 L.length (i64s L)) :
    Calls Try.prog 15 #[v, u] w fun e w' => e = .returned (.bool true) ∧ Below w.heap.size w w' := by
  have := iequal_any v u L L w h k
  rwa [decide_eq_true rfl] at this
theorem rthas_z (a b c d x y : Nat) (w : World) (ha : a < 18446744073709551616) (hb : b < 18446744073709551616) (hc : c < 18446744073709551616) (hd : d < 18446744073709551616) (hx : x < 18446744073709551616) (hy : y < 18446744073709551616) :
    Calls Try.prog 12 #[td a b c d, wd x y] w fun e w' => e = .returned (.bool (thz a b c d x y)) ∧ Below w.heap.size w w' := rthas_any a b c d x y w ha hb hc hd hx hy
theorem rtwithin_z (a b c d a2 b2 c2 d2 : Nat) (w : World) (ha : a < 18446744073709551616) (hb : b < 18446744073709551616) (hc : c < 18446744073709551616) (hd : d < 18446744073709551616) (ha2 : a2 < 18446744073709551616) (hb2 : b2 < 18446744073709551616) (hc2 : c2 < 18446744073709551616) (hd2 : d2 < 18446744073709551616) :
    Calls Try.prog 14 #[td a b c d, td a2 b2 c2 d2] w fun e w' => e = .returned (.bool (twz a b c d a2 b2 c2 d2)) ∧ Below w.heap.size w w' := rtwithin_any a b c d a2 b2 c2 d2 w ha hb hc hd ha2 hb2 hc2 hd2

set_option maxRecDepth 100000 in
set_option maxHeartbeats 8000000 in
theorem ternTells_walk (a b c d a2 b2 c2 d2 x y : Nat) (i : Int) (on : Bool) (w : World) (ha : a < 18446744073709551616) (hb : b < 18446744073709551616) (hc : c < 18446744073709551616) (hd : d < 18446744073709551616) (ha2 : a2 < 18446744073709551616) (hb2 : b2 < 18446744073709551616) (hc2 : c2 < 18446744073709551616) (hd2 : d2 < 18446744073709551616) (hx : x < 18446744073709551616) (hy : y < 18446744073709551616) :
    Calls Try.prog 3 #[td a b c d, td a2 b2 c2 d2, wd x y, .int .i64 i, .bool on] w fun e w' => e = .returned (.bool true) ∧ Below w.heap.size w w' := by
  have q1 := hide_ (fun w => tmeet_ok a b c d a2 b2 c2 d2 w ha hb hc hd ha2 hb2 hc2 hd2)
  have q2 := hide_ (fun w => rtmeet_ok a b c d a2 b2 c2 d2 w ha hb hc hd ha2 hb2 hc2 hd2)
  have q3 := hide_ (fun w => thas_z a b c d x y w ha hb hc hd hx hy)
  have q4 := hide_ (fun w => rthas_z a b c d x y w ha hb hc hd hx hy)
  have q5 := hide_ (fun w => twithin_z a b c d a2 b2 c2 d2 w ha hb hc hd ha2 hb2 hc2 hd2)
  have q6 := hide_ (fun w => rtwithin_z a b c d a2 b2 c2 d2 w ha hb hc hd ha2 hb2 hc2 hd2)
  have q7 := hide_ (fun w => tbits_any a b c d a2 b2 c2 d2 w ha hb hc hd ha2 hb2 hc2 hd2)
  have q8 := hide_ (fun w => rtbits_any a b c d a2 b2 c2 d2 w ha hb hc hd ha2 hb2 hc2 hd2)
  have q9 := hide_ (fun w => tclean_any a b c d w ha hb hc hd)
  have qa := hide_ (fun w => rtclean_any a b c d w ha hb hc hd)
  have qb := hide_ (fun w => tfix_any a b c d i on w ha hb hc hd)
  have qc := hide_ (fun w => rtfix_any a b c d i on w ha hb hc hd)
  generalize mz (mok a b c d a2 b2 c2 d2) (a &&& c ||| a2 &&& c2) = m1 at *
  generalize mz (mok a b c d a2 b2 c2 d2) (b &&& d ||| b2 &&& d2) = m2 at *
  generalize mz (mok a b c d a2 b2 c2 d2) (c ||| c2) = m3 at *
  generalize mz (mok a b c d a2 b2 c2 d2) (d ||| d2) = m4 at *
  generalize mok a b c d a2 b2 c2 d2 = ok at *
  generalize thz a b c d x y = zA at *
  generalize twz a b c d a2 b2 c2 d2 = zW at *
  generalize fall (hasb (andn c2 c) (andn d2 d)) 128 = L at *
  generalize fixv (a &&& c) (bhz i) on = f1 at *
  generalize fixv (b &&& d) (blz i) on = f2 at *
  generalize c ||| bhz i = f3 at *
  generalize d ||| blz i = f4 at *
  generalize a &&& c = p1 at *
  generalize b &&& d = p2 at *
  clear ha hb hc hd ha2 hb2 hc2 hd2 hx hy
  have ez : ∀ z : Bool, (z == z) = true := by simp
  have ez1 := ez ok
  have ez2 := ez zA
  have ez3 := ez zW
  clear ez
  unfold td at *
  unfold wd at *
  have HA := hide_ (((AB.at0 w 26 [.int .u64 (a : Int), .int .u64 (b : Int), .int .u64 (c : Int), .int .u64 (d : Int)]).alloc (.cells #[.int .u64 (a2 : Int), .int .u64 (b2 : Int), .int .u64 (c2 : Int), .int .u64 (d2 : Int)] 26)).alloc (.cells #[.int .u64 (x : Int), .int .u64 (y : Int)] 24))
  have HC := hide_ ((AB.at1 w (.cells #[.int .u64 (a : Int), .int .u64 (b : Int), .int .u64 (c : Int), .int .u64 (d : Int)] 26) 26 [.int .u64 (a2 : Int), .int .u64 (b2 : Int), .int .u64 (c2 : Int), .int .u64 (d2 : Int)]).alloc (.cells #[.int .u64 (x : Int), .int .u64 (y : Int)] 24))
  have HV := hide_ (AB.at2 w (.cells #[.int .u64 (a : Int), .int .u64 (b : Int), .int .u64 (c : Int), .int .u64 (d : Int)] 26) (.cells #[.int .u64 (a2 : Int), .int .u64 (b2 : Int), .int .u64 (c2 : Int), .int .u64 (d2 : Int)] 26) 24 [.int .u64 (x : Int), .int .u64 (y : Int)])
  have HB := hide_ (below3 w (.cells #[.int .u64 (a : Int), .int .u64 (b : Int), .int .u64 (c : Int), .int .u64 (d : Int)] 26) (.cells #[.int .u64 (a2 : Int), .int .u64 (b2 : Int), .int .u64 (c2 : Int), .int .u64 (d2 : Int)] 26) (.cells #[.int .u64 (x : Int), .int .u64 (y : Int)] 24))
  go_enter Try.func3, Try.ntmps3
  go_wp2_with fail
  refine (q1.out _).mono ?_
  rintro e w1 ⟨rfl, b1⟩
  have A1 := hide_ ((HA.out.later b1).alloc (.cells #[.int .u64 (m1 : Int), .int .u64 (m2 : Int), .int .u64 (m3 : Int), .int .u64 (m4 : Int)] 26))
  have C1 := hide_ ((HC.out.later b1).alloc (.cells #[.int .u64 (m1 : Int), .int .u64 (m2 : Int), .int .u64 (m3 : Int), .int .u64 (m4 : Int)] 26))
  have V1 := hide_ ((HV.out.later b1).alloc (.cells #[.int .u64 (m1 : Int), .int .u64 (m2 : Int), .int .u64 (m3 : Int), .int .u64 (m4 : Int)] 26))
  have M1 := hide_ (AB.at0 w1 26 [.int .u64 (m1 : Int), .int .u64 (m2 : Int), .int .u64 (m3 : Int), .int .u64 (m4 : Int)])
  have B0 := HB.out.trans (b1.mono HB.out.size)
  have B1 := hide_ (B0.alloc B0.size (.cells #[.int .u64 (m1 : Int), .int .u64 (m2 : Int), .int .u64 (m3 : Int), .int .u64 (m4 : Int)] 26))
  clear HA HC HV HB B0 b1
  obtain ⟨s0, s1, s2, s3, -⟩ := A1.out.four
  obtain ⟨t0, t1, t2, t3, -⟩ := C1.out.four
  go_wp2_with fail
  clear s0 s1 s2 s3 t0 t1 t2 t3
  generalize w1.alloc (.cells #[.int .u64 (m1 : Int), .int .u64 (m2 : Int), .int .u64 (m3 : Int), .int .u64 (m4 : Int)] 26) = W1 at *
  generalize w1.heap.size = n1 at *
  refine (q2.out _).mono ?_
  rintro e w2 ⟨rfl, b2'⟩
  have A2 := (A1.out.later b2').alloc (.cells #[.int .u64 (m1 : Int), .int .u64 (m2 : Int), .int .u64 (m3 : Int), .int .u64 (m4 : Int)] 26)
  have C2 := (C1.out.later b2').alloc (.cells #[.int .u64 (m1 : Int), .int .u64 (m2 : Int), .int .u64 (m3 : Int), .int .u64 (m4 : Int)] 26)
  have V2 := (V1.out.later b2').alloc (.cells #[.int .u64 (m1 : Int), .int .u64 (m2 : Int), .int .u64 (m3 : Int), .int .u64 (m4 : Int)] 26)
  have M2 := (M1.out.later b2').alloc (.cells #[.int .u64 (m1 : Int), .int .u64 (m2 : Int), .int .u64 (m3 : Int), .int .u64 (m4 : Int)] 26)
  have N2 := AB.at0 w2 26 [.int .u64 (m1 : Int), .int .u64 (m2 : Int), .int .u64 (m3 : Int), .int .u64 (m4 : Int)]
  have B0 := B1.out.trans (b2'.mono B1.out.size)
  have B2 := hide_ (B0.alloc B0.size (.cells #[.int .u64 (m1 : Int), .int .u64 (m2 : Int), .int .u64 (m3 : Int), .int .u64 (m4 : Int)] 26))
  clear A1 C1 V1 M1 B1 B0 b2'
  obtain ⟨o0, o1, o2, o3, -⟩ := A2.four
  obtain ⟨o4, o5, o6, o7, -⟩ := C2.four
  obtain ⟨o8, o9, -⟩ := V2.two
  obtain ⟨o10, o11, o12, o13, -⟩ := M2.four
  obtain ⟨o14, o15, o16, o17, -⟩ := N2.four
  have HA := hide_ A2
  have HC := hide_ C2
  clear A2 C2 V2 M2 N2
  go_wp2_with fail
  generalize w2.alloc (.cells #[.int .u64 (m1 : Int), .int .u64 (m2 : Int), .int .u64 (m3 : Int), .int .u64 (m4 : Int)] 26) = W at *
  generalize w2.heap.size = n2 at *
  go_region_held3 (fun w' => w'.cell? ⟨w.heap.size, 0, none⟩ = some (.int .u64 (a : Int)) ∧ w'.cell? ⟨w.heap.size, 1, none⟩ = some (.int .u64 (b : Int)) ∧ w'.cell? ⟨w.heap.size, 2, none⟩ = some (.int .u64 (c : Int)) ∧ w'.cell? ⟨w.heap.size, 3, none⟩ = some (.int .u64 (d : Int)) ∧ w'.cell? ⟨w.heap.size + 1, 0, none⟩ = some (.int .u64 (a2 : Int)) ∧ w'.cell? ⟨w.heap.size + 1, 1, none⟩ = some (.int .u64 (b2 : Int)) ∧ w'.cell? ⟨w.heap.size + 1, 2, none⟩ = some (.int .u64 (c2 : Int)) ∧ w'.cell? ⟨w.heap.size + 1, 3, none⟩ = some (.int .u64 (d2 : Int)) ∧ w'.cell? ⟨w.heap.size + 1 + 1, 0, none⟩ = some (.int .u64 (x : Int)) ∧ w'.cell? ⟨w.heap.size + 1 + 1, 1, none⟩ = some (.int .u64 (y : Int)) ∧ w'.cell? ⟨n1, 0, none⟩ = some (.int .u64 (m1 : Int)) ∧ w'.cell? ⟨n1, 1, none⟩ = some (.int .u64 (m2 : Int)) ∧ w'.cell? ⟨n1, 2, none⟩ = some (.int .u64 (m3 : Int)) ∧ w'.cell? ⟨n1, 3, none⟩ = some (.int .u64 (m4 : Int)) ∧ w'.cell? ⟨n2, 0, none⟩ = some (.int .u64 (m1 : Int)) ∧ w'.cell? ⟨n2, 1, none⟩ = some (.int .u64 (m2 : Int)) ∧ w'.cell? ⟨n2, 2, none⟩ = some (.int .u64 (m3 : Int)) ∧ w'.cell? ⟨n2, 3, none⟩ = some (.int .u64 (m4 : Int)) ∧ Below W.heap.size W w')
    (first | (with_reducible exact keepA18 (by assumption) (by assumption)) | (exact ⟨o0, o1, o2, o3, o4, o5, o6, o7, o8, o9, o10, o11, o12, o13, o14, o15, o16, o17, (Below.refl _ _).drew⟩) | (exact ⟨o0, o1, o2, o3, o4, o5, o6, o7, o8, o9, o10, o11, o12, o13, o14, o15, o16, o17, Below.refl _ _⟩))
    (first | (go_at_call 11; refine (q3.out _).mono ?_; rintro e w' ⟨rfl, hb⟩) | (go_at_call 12; refine (q4.out _).mono ?_; rintro e w' ⟨rfl, hb⟩) | (go_at_call 13; refine (q5.out _).mono ?_; rintro e w' ⟨rfl, hb⟩) | (go_at_call 14; refine (q6.out _).mono ?_; rintro e w' ⟨rfl, hb⟩))
  rename_i hH
  have kk := hH.2.2.2.2.2.2.2.2.2.2.2.2.2.2.2.2.2.2
  clear hH o0 o1 o2 o3 o4 o5 o6 o7 o8 o9 o10 o11 o12 o13 o14 o15 o16 o17 hb
  have HA3 := hide_ (HA.out.later kk)
  have HC3 := hide_ (HC.out.later kk)
  have HB3 := hide_ (B2.out.trans (kk.mono B2.out.size))
  clear HA HC B2 kk
  obtain ⟨o0, o1, o2, o3, -⟩ := HA3.out.four
  obtain ⟨o4, o5, o6, o7, -⟩ := HC3.out.four
  go_wp2_with fail
  generalize w' = W3 at *
  go_region_held3 (fun w' => w'.cell? ⟨w.heap.size, 0, none⟩ = some (.int .u64 (a : Int)) ∧ w'.cell? ⟨w.heap.size, 1, none⟩ = some (.int .u64 (b : Int)) ∧ w'.cell? ⟨w.heap.size, 2, none⟩ = some (.int .u64 (c : Int)) ∧ w'.cell? ⟨w.heap.size, 3, none⟩ = some (.int .u64 (d : Int)) ∧ w'.cell? ⟨w.heap.size + 1, 0, none⟩ = some (.int .u64 (a2 : Int)) ∧ w'.cell? ⟨w.heap.size + 1, 1, none⟩ = some (.int .u64 (b2 : Int)) ∧ w'.cell? ⟨w.heap.size + 1, 2, none⟩ = some (.int .u64 (c2 : Int)) ∧ w'.cell? ⟨w.heap.size + 1, 3, none⟩ = some (.int .u64 (d2 : Int)) ∧ Below W3.heap.size W3 w')
    (first | (with_reducible exact keepA8 (by assumption) (by assumption)) | (exact ⟨o0, o1, o2, o3, o4, o5, o6, o7, (Below.refl _ _).drew⟩) | (exact ⟨o0, o1, o2, o3, o4, o5, o6, o7, Below.refl _ _⟩))
    (first | (go_at_call 16; refine (q7.out _).mono ?_; rintro e w5 ⟨u5, rfl, c5, b5⟩) | (go_at_call 17; refine (q8.out _).mono ?_; rintro e w6 ⟨u6, rfl, c6, b6⟩) | (go_at_call 15; refine (iequal_same u5 u6 L w6 (c5.later b6) c6).mono ?_; rintro e w' ⟨rfl, hb⟩) | (go_at_call 18; refine (q9.out _).mono ?_; rintro e w' ⟨rfl, hb⟩) | (go_at_call 19; refine (qa.out _).mono ?_; rintro e w' ⟨rfl, hb⟩))
  rename_i hH
  have kk := hH.2.2.2.2.2.2.2.2
  clear hH o0 o1 o2 o3 o4 o5 o6 o7 hb
  have HA4 := hide_ (HA3.out.later kk)
  have HC4 := hide_ (HC3.out.later kk)
  have HB4 := hide_ (HB3.out.trans (kk.mono HB3.out.size))
  clear HA3 HC3 HB3 kk
  obtain ⟨o0, o1, o2, o3, -⟩ := HA4.out.four
  obtain ⟨o4, o5, o6, o7, -⟩ := HC4.out.four
  go_wp2_with fail
  generalize w' = W4 at *
  go_region_held3 (fun w' => w'.cell? ⟨w.heap.size, 0, none⟩ = some (.int .u64 (a : Int)) ∧ w'.cell? ⟨w.heap.size, 1, none⟩ = some (.int .u64 (b : Int)) ∧ w'.cell? ⟨w.heap.size, 2, none⟩ = some (.int .u64 (c : Int)) ∧ w'.cell? ⟨w.heap.size, 3, none⟩ = some (.int .u64 (d : Int)) ∧ w'.cell? ⟨w.heap.size + 1, 0, none⟩ = some (.int .u64 (a2 : Int)) ∧ w'.cell? ⟨w.heap.size + 1, 1, none⟩ = some (.int .u64 (b2 : Int)) ∧ w'.cell? ⟨w.heap.size + 1, 2, none⟩ = some (.int .u64 (c2 : Int)) ∧ w'.cell? ⟨w.heap.size + 1, 3, none⟩ = some (.int .u64 (d2 : Int)) ∧ Below W4.heap.size W4 w')
    (first | (with_reducible exact keepA8 (by assumption) (by assumption)) | (exact ⟨o0, o1, o2, o3, o4, o5, o6, o7, (Below.refl _ _).drew⟩) | (exact ⟨o0, o1, o2, o3, o4, o5, o6, o7, Below.refl _ _⟩))
    (first | (go_at_call 20; refine (qb.out _).mono ?_; rintro e w' ⟨rfl, hb⟩) | (go_at_call 21; refine (qc.out _).mono ?_; rintro e w' ⟨rfl, hb⟩) | (go_at_call 22; refine (awake5_any _).mono ?_; rintro e w' ⟨rfl, hb⟩))
  rename_i hH
  have kk := hH.2.2.2.2.2.2.2.2
  clear hH
  go_wp2_with fail
  go_ret
  exact ⟨rfl, HB4.out.trans (kk.mono HB4.out.size)⟩


end Go.Proofs.Ytabeahglfhhfmaa
