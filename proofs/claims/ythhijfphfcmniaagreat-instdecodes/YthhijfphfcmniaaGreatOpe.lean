import Derived.Test.YthhijfphfcmniaaGreatOse
import Derived.Deep.RegionHeld3
import Derived.Deep.RegionWith
import Derived.Deep.MidRow
import Derived.Deep.Cut
set_option maxRecDepth 100000
set_option maxHeartbeats 8000000
set_option linter.unusedVariables false
set_option linter.unusedSimpArgs false
namespace Go.Proofs.YthhijfphfcmniaaGreat
open Go Go.RowKit
theorem rodec_0 (z2 z3 : Int) (r : List Int) (j : Nat) (w : World) (bb off cap : Nat) (ao' : Option Addr) (R : Value) (hm : ¬ z2 % 2 = 1) (i2 : 0 ≤ z2 ∧ z2 ≤ 255) (i3 : 0 ≤ z3 ∧ z3 ≤ 255) (hc1 : r.length + 4 ≤ cap) (hc2 : cap ≤ 2 ^ 63 - 1) (hs : ¬ (r.length : Int) < z3) (hsf : z3 = (fsize (j : Int) : Int)) (hfi : fidx (z2 / 2) = some j)
    (HE : headR (128 :: 0 :: z2 :: z3 :: r) = (0, (j : Int), false))
    (hR : (if (headR (128 :: 0 :: z2 :: z3 :: r)).1 = 0 then
    (if chk (headR (128 :: 0 :: z2 :: z3 :: r)).2.1 (headR (128 :: 0 :: z2 :: z3 :: r)).2.2 (bodyA r (headR (128 :: 0 :: z2 :: z3 :: r)).2.1 (headR (128 :: 0 :: z2 :: z3 :: r)).2.2).1 (bodyA r (headR (128 :: 0 :: z2 :: z3 :: r)).2.1 (headR (128 :: 0 :: z2 :: z3 :: r)).2.2).2.1 (bodyA r (headR (128 :: 0 :: z2 :: z3 :: r)).2.1 (headR (128 :: 0 :: z2 :: z3 :: r)).2.2).2.2.1 (bodyA r (headR (128 :: 0 :: z2 :: z3 :: r)).2.1 (headR (128 :: 0 :: z2 :: z3 :: r)).2.2).2.2.2 = 0 then
      .tuple #[ov (headR (128 :: 0 :: z2 :: z3 :: r)).2.1 (headR (128 :: 0 :: z2 :: z3 :: r)).2.2 (bodyA r (headR (128 :: 0 :: z2 :: z3 :: r)).2.1 (headR (128 :: 0 :: z2 :: z3 :: r)).2.2).1 (bodyA r (headR (128 :: 0 :: z2 :: z3 :: r)).2.1 (headR (128 :: 0 :: z2 :: z3 :: r)).2.2).2.1 (bodyA r (headR (128 :: 0 :: z2 :: z3 :: r)).2.1 (headR (128 :: 0 :: z2 :: z3 :: r)).2.2).2.2.1 (bodyA r (headR (128 :: 0 :: z2 :: z3 :: r)).2.1 (headR (128 :: 0 :: z2 :: z3 :: r)).2.2).2.2.2, .int .i64 (4 + foll (headR (128 :: 0 :: z2 :: z3 :: r)).2.1 (headR (128 :: 0 :: z2 :: z3 :: r)).2.2), fv false 0 0]
    else .tuple #[ov 0 false 0 0 0 0, .int .i64 0, fv true 4 (chk (headR (128 :: 0 :: z2 :: z3 :: r)).2.1 (headR (128 :: 0 :: z2 :: z3 :: r)).2.2 (bodyA r (headR (128 :: 0 :: z2 :: z3 :: r)).2.1 (headR (128 :: 0 :: z2 :: z3 :: r)).2.2).1 (bodyA r (headR (128 :: 0 :: z2 :: z3 :: r)).2.1 (headR (128 :: 0 :: z2 :: z3 :: r)).2.2).2.1 (bodyA r (headR (128 :: 0 :: z2 :: z3 :: r)).2.1 (headR (128 :: 0 :: z2 :: z3 :: r)).2.2).2.2.1 (bodyA r (headR (128 :: 0 :: z2 :: z3 :: r)).2.1 (headR (128 :: 0 :: z2 :: z3 :: r)).2.2).2.2.2)])
  else .tuple #[ov 0 false 0 0 0 0, .int .i64 0, fv true 4 (headR (128 :: 0 :: z2 :: z3 :: r)).1]) = R)
    (hB : Bytes w (.slice (some ⟨bb, off, none⟩) (128 :: 0 :: z2 :: z3 :: r).length cap) (128 :: 0 :: z2 :: z3 :: r)) (hB4 : Bytes w (.slice ao' (r.length + 4 - 4) (cap - 4)) r)
    (hsl : ∀ wx, (Instr.slice 25 (.slice (some ⟨bb, off, none⟩) (r.length + 4) cap) (some (.int .i64 4)) none none).run Tryz.prog wx = .ok (.slice ao' (r.length + 4 - 4) (cap - 4)) wx) (hiB : isB r) :
    Calls Tryz.prog 168 #[.slice (some ⟨bb, off, none⟩) (r.length + 4) cap] w fun e w' => e = .returned R ∧ Below w.heap.size w w' := by
  rw [HE] at hR
  dsimp only at hR
  rw [if_pos rfl] at hR
  rw [show r.length + 4 - 4 = r.length by omega] at hsl hB4
  have hs16 := fsize_le (j : Int)
  have O0 := h_ ((AB.at0 w 59 [.int .i64 0, .bool false, .int .u64 0, .int .u64 0, .int .u64 0, .int .u64 0]).alloc (.cells #[.bool false, .int .i64 0, .int .i64 0] 44))
  have F0 := h_ (AB.at1 w (.cells #[.int .i64 0, .bool false, .int .u64 0, .int .u64 0, .int .u64 0, .int .u64 0] 59) 44 [.bool false, .int .i64 0, .int .i64 0])
  have B0 := h_ (below2 w (.cells #[.int .i64 0, .bool false, .int .u64 0, .int .u64 0, .int .u64 0, .int .u64 0] 59) (.cells #[.bool false, .int .i64 0, .int .i64 0] 44))
  have hn0 : w.heap.size + 1 < ((w.alloc (.cells #[.int .i64 0, .bool false, .int .u64 0, .int .u64 0, .int .u64 0, .int .u64 0] 59)).alloc (.cells #[.bool false, .int .i64 0, .int .i64 0] 44)).heap.size := by simp
  have qr := h_ (fun k w => rbad_any k w)
  obtain ⟨-, -, -, hat⟩ := hB.at
  obtain ⟨bb', off', e', d0⟩ := hat 0 128 rfl
  cases e'
  obtain ⟨bb', off', e', d1⟩ := hat 1 0 rfl
  cases e'
  obtain ⟨bb', off', e', d2⟩ := hat 2 z2 rfl
  cases e'
  obtain ⟨bb', off', e', d3⟩ := hat 3 z3 rfl
  cases e'
  have D0 : Hid (((w.alloc (.cells #[.int .i64 0, .bool false, .int .u64 0, .int .u64 0, .int .u64 0, .int .u64 0] 59)).alloc (.cells #[.bool false, .int .i64 0, .int .i64 0] 44)).cell? ⟨bb, off, none⟩ = some (.int .u8 128)) := h_ (cell_later B0.out d0)
  have D1 : Hid (((w.alloc (.cells #[.int .i64 0, .bool false, .int .u64 0, .int .u64 0, .int .u64 0, .int .u64 0] 59)).alloc (.cells #[.bool false, .int .i64 0, .int .i64 0] 44)).cell? ⟨bb, off + 1, none⟩ = some (.int .u8 0)) := h_ (cell_later B0.out d1)
  have D2 : Hid (((w.alloc (.cells #[.int .i64 0, .bool false, .int .u64 0, .int .u64 0, .int .u64 0, .int .u64 0] 59)).alloc (.cells #[.bool false, .int .i64 0, .int .i64 0] 44)).cell? ⟨bb, off + 2, none⟩ = some (.int .u8 z2)) := h_ (cell_later B0.out d2)
  have D3 : Hid (((w.alloc (.cells #[.int .i64 0, .bool false, .int .u64 0, .int .u64 0, .int .u64 0, .int .u64 0] 59)).alloc (.cells #[.bool false, .int .i64 0, .int .i64 0] 44)).cell? ⟨bb, off + 3, none⟩ = some (.int .u8 z3)) := h_ (cell_later B0.out d3)
  have qi := fun w => rindex_any (z2 / 2) w
  unfold idxt at qi
  rw [hfi] at qi
  have qi := h_ qi
  have qs := h_ (fun w => rfsize_any (j : Int) w)
  skip
  skip
  skip
  have p1 : Hid (∀ W, Below ((w.alloc (.cells #[.int .i64 0, .bool false, .int .u64 0, .int .u64 0, .int .u64 0, .int .u64 0] 59)).alloc (.cells #[.bool false, .int .i64 0, .int .i64 0] 44)).heap.size ((w.alloc (.cells #[.int .i64 0, .bool false, .int .u64 0, .int .u64 0, .int .u64 0, .int .u64 0] 59)).alloc (.cells #[.bool false, .int .i64 0, .int .i64 0] 44)) W → Calls Tryz.prog 95 #[.slice ao' r.length (cap - 4), .int .i64 (fsize (j : Int) : Nat)] W fun e W' => e = .returned (.tuple #[.agg #[.int .u64 (gx r (fsize (j : Int) : Int) : Nat), .int .u64 (gy r (fsize (j : Int) : Int) : Nat)], .bool (gok r (fsize (j : Int) : Int))]) ∧ Below W.heap.size W W') := h_ (fun W hW => rwget_any _ r (fsize (j : Int) : Int) W ((hB4.later B0.out).later hW))
  obtain ⟨ao2, -, hslb, hB5⟩ := bytes_slice hB (4 + fsize (j : Int)) (by simp; omega)
  have hdd : (128 :: 0 :: z2 :: z3 :: r).drop (4 + fsize (j : Int)) = r.drop (fsize (j : Int)) := by
    rw [← List.drop_drop]; rfl
  rw [hdd] at hB5
  have hll : (128 :: 0 :: z2 :: z3 :: r).length = r.length + 4 := by simp
  rw [hll] at hslb hB5
  have hslb : ∀ wx, (Instr.slice 25 (.slice (some ⟨bb, off, none⟩) (r.length + 4) cap) (some (.int .i64 (4 + (fsize (j : Int) : Int)))) none none).run Tryz.prog wx = .ok (.slice ao2 (r.length + 4 - (4 + fsize (j : Int))) (cap - (4 + fsize (j : Int)))) wx := fun wx => by
    have := hslb wx
    rw [show ((4 + fsize (j : Int) : Nat) : Int) = 4 + (fsize (j : Int) : Int) by omega] at this
    exact this
  have p2 : Hid (∀ W, Below w.heap.size w W → Calls Tryz.prog 95 #[.slice ao2 (r.length + 4 - (4 + fsize (j : Int))) (cap - (4 + fsize (j : Int))), .int .i64 (fsize (j : Int) : Nat)] W fun e W' => e = .returned (.tuple #[.agg #[.int .u64 (gx (r.drop (fsize (j : Int))) (fsize (j : Int) : Int) : Nat), .int .u64 (gy (r.drop (fsize (j : Int))) (fsize (j : Int) : Int) : Nat)], .bool (gok (r.drop (fsize (j : Int))) (fsize (j : Int) : Int))]) ∧ Below W.heap.size W W') := h_ (fun W hW => rwget_any _ (r.drop (fsize (j : Int))) (fsize (j : Int) : Int) W (hB5.later hW))
  have qb := h_ (fun w => rfbits_any (j : Int) w)
  have ql := h_ (fun w => rlowf (j : Int) w)
  obtain ⟨ha, hb, hc, hd⟩ := bodyA_lt r (j : Int) false hiB
  unfold bodyA at hR ha hb hc hd
  dsimp only at hR ha hb hc hd
  have hq1 : Int.tdiv z2 2 = z2 / 2 := Int.tdiv_eq_ediv_of_nonneg i2.1
  have hq2 : Int.tmod z2 2 = z2 % 2 := Int.tmod_eq_emod_of_nonneg i2.1
  have hq3 : IntKind.u8.wrap (z2 / 2) = z2 / 2 := by rw [IntKind.wrap_u8]; omega
  have hq4 : IntKind.u8.wrap (z2 % 2) = z2 % 2 := by rw [IntKind.wrap_u8]; omega
  have hq3i : IntKind.i64.wrap (z2 / 2) = z2 / 2 := by rw [IntKind.wrap_i64]; omega
  have hq5i : IntKind.i64.wrap z3 = z3 := by rw [IntKind.wrap_i64]; omega
  have hq7 : IntKind.i64.wrap (4 + z3) = 4 + z3 := by rw [IntKind.wrap_i64]; omega
  have hws : IntKind.i64.wrap (2 * (fsize (j : Int) : Int)) = 2 * (fsize (j : Int) : Int) := by rw [IntKind.wrap_i64]; omega
  have hw4 : IntKind.i64.wrap (4 + (fsize (j : Int) : Int)) = 4 + (fsize (j : Int) : Int) := by rw [IntKind.wrap_i64]; omega
  have hn4 : ¬ (((r.length + 4 : Nat) : Int) < 4) := by omega
  have hq5 : ((r.length + 4 : Nat) : Int) - 4 = (r.length : Int) := by omega
  have hq6 : IntKind.i64.wrap (r.length : Int) = (r.length : Int) := by rw [IntKind.wrap_i64]; omega
  have hm' : (z2 % 2 == 1) = false := by simpa using hm
  have d3w := h_ d3
  have bbw : bb < w.heap.size := World.block_lt_of_cell? w _ d3
  have y0 := D0.out
  have y1 := D1.out
  have y2' := D2.out
  have y3 := D3.out
  have hfo : foll (j : Int) false = z3 := hsf.symm
  rw [hfo] at hR
  clear hfo
  subst hsf
  generalize r.length + 4 - (4 + fsize (j : Int)) = n2 at *
  generalize cap - (4 + fsize (j : Int)) = cp2 at *
  generalize cap - 4 = cp1 at *
  have q4 := h_ (fun w => rless_any _ _ (LH (j : Int)) (LL (j : Int)) w ha hb (LH_lt (j : Int)) (LL_lt (j : Int)))
  have q5 : Hid (∀ w, Calls Tryz.prog 87 #[wd (andn (gx r (fsize (j : Int) : Int)) (LH (j : Int))) (andn (gy r (fsize (j : Int) : Int)) (LL (j : Int)))] w fun e w' => e = .returned (.bool (wi (gx r (fsize (j : Int) : Int)) (gy r (fsize (j : Int) : Int)) (LH (j : Int)) (LL (j : Int)))) ∧ Below w.heap.size w w') := h_ (fun w => rzero_any _ _ w)
  unfold chk at hR
  clear ha hb hc hd hat d0 d1 d2 d3 hB hB4 hB5 hdd hll HE hiB hfi
  generalize gx r (fsize (j : Int) : Int) = x at *
  generalize gy r (fsize (j : Int) : Int) = y at *
  generalize gx (r.drop (fsize (j : Int))) (fsize (j : Int) : Int) = x2 at *
  generalize gy (r.drop (fsize (j : Int))) (fsize (j : Int) : Int) = y2 at *
  generalize gok r (fsize (j : Int) : Int) = o1 at *
  generalize gok (r.drop (fsize (j : Int))) (fsize (j : Int) : Int) = o2 at *
  generalize wi x y (LH (j : Int)) (LL (j : Int)) = v1 at *
  generalize wi 0 0 (LH (j : Int)) (LL (j : Int)) = v2 at *
  generalize zz 0 0 = v3 at *
  generalize wi x y 0 0 = v4 at *
  generalize andn x (LH (j : Int)) = u1 at *
  generalize andn y (LL (j : Int)) = u2 at *
  generalize LH (j : Int) = p1' at *
  generalize LL (j : Int) = p2' at *
  generalize ((fbits (j : Int) : Nat) : Int) = nb at *
  generalize fsize (j : Int) = s at *
  generalize r.length = n at *
  have HR := h_ hR
  clear hR
  unfold ov fv at *
  unfold wd at ql q4 q5
  go_enter Tryz.func168, Tryz.ntmps168
  go_upto_region 17 with (first | (go_at_call 180; refine (qi.out _).mono ?_; rintro e w1 ⟨rfl, k1⟩; have c0 := cell_later k1 D0.out; have c1 := cell_later k1 D1.out; have c2 := cell_later k1 D2.out; have c3 := cell_later k1 D3.out; have j1 := k1.trans ((below1 w1 (.cells #[.int .i64 (j : Int), .bool false, .int .u64 (0 : Int), .int .u64 (0 : Int), .int .u64 (0 : Int), .int .u64 (0 : Int)] 59)).mono k1.size); have N1 := h_ (AB.at0 w1 59 [.int .i64 (j : Int), .bool false, .int .u64 (0 : Int), .int .u64 (0 : Int), .int .u64 (0 : Int), .int .u64 (0 : Int)])) | (go_at_call 134; refine (qs.out _).mono ?_; rintro e w9 ⟨rfl, rfl⟩) | (go_at_call_of 95 (Value.slice ao' n cp1); refine (p1.out _ j1).mono ?_; rintro e w2 ⟨rfl, b2⟩; have j2 := j1.trans (b2.mono j1.size); obtain ⟨s0, s1, s2, s3, s4, s5, s6, s7, s8, s9, s10, s11⟩ := (N1.out.later b2).six; have NM := h_ (((N1.out.later b2).set (j := 2) (.int .u64 (x : Int))).set (j := 3) (.int .u64 (y : Int))); obtain ⟨m0, m1, m2, m3, m4, m5, m6, m7, m8, m9, m10, m11⟩ := NM.out.six; have hgz : w.heap.size + 1 < w1.heap.size := Nat.lt_of_lt_of_le hn0 k1.size; have OM := h_ (((O0.out.later j2).far (f := w1.heap.size) (o := 2) (.int .u64 (x : Int)) (by omega)).far (f := w1.heap.size) (o := 3) (.int .u64 (y : Int)) (by omega)); have FM := h_ (((F0.out.later j2).far (f := w1.heap.size) (o := 2) (.int .u64 (x : Int)) (by omega)).far (f := w1.heap.size) (o := 3) (.int .u64 (y : Int)) (by omega)); have BM := ((B0.out.trans (j2.mono B0.out.size)).setCell (p := ⟨w1.heap.size, 2, none⟩) (by dsimp only; omega) (.int .u64 (x : Int))).setCell (p := ⟨w1.heap.size, 3, none⟩) (by dsimp only; omega) (.int .u64 (y : Int))) | (go_at_call 153; refine (qb.out _).mono ?_; rintro e w9 ⟨rfl, rfl⟩) | (go_at_call 152; refine (ql.out _).mono ?_; rintro e w5 ⟨rfl, b5⟩))
  have PA := h_ (AB.at0 w5 31 [.int .u64 (p1' : Int), .int .u64 (p2' : Int)])
  have jA := b5.trans ((below1 w5 (.cells #[.int .u64 (p1' : Int), .int .u64 (p2' : Int)] 31)).mono b5.size)
  have NV := h_ (NM.out.later jA)
  have OV := h_ (OM.out.later jA)
  have FV := h_ (FM.out.later jA)
  have BV := h_ (BM.trans (jA.mono BM.size))
  have hd3 : Hid ((w5.alloc (.cells #[.int .u64 (p1' : Int), .int .u64 (p2' : Int)] 31)).cell? ⟨bb, off + 3, none⟩ = some (.int .u8 ((s : Int)))) := h_ (cell_later (BM.trans (jA.mono BM.size)) (d3w.out))
  try simp only [Act.put]
  generalize (w5.alloc (.cells #[.int .u64 (p1' : Int), .int .u64 (p2' : Int)] 31)) = V at *
  generalize w5.heap.size = gA at *
  generalize w1.heap.size = g at *
  clear NM OM FM BM N1 O0 F0 B0 b2 b5 jA j1 j2 k1 D0 D1 D2 D3
  cases v1
  · have e : Hid (Value.tuple #[.agg #[.int .i64 0, .bool false, .int .u64 0, .int .u64 0, .int .u64 0, .int .u64 0], .int .i64 0, .agg #[.bool true, .int .i64 4, .int .i64 7]] = R) := h_ (by rw [← HR.out]; first | rfl | (cases v2 <;> rfl) | (cases v3 <;> rfl))
    obtain ⟨x00, x01, -⟩ := PA.out.two
    obtain ⟨y00, y01, y02, y03, y04, y05, -⟩ := NV.out.six
    go_wp2_with (first | ((go_at_call_of 88 (Value.int IntKind.u64 (x : Int)); go_at_call_of 88 (Value.int IntKind.u64 (p1' : Int))); refine (q4.out _).mono ?_; rintro e w11 ⟨rfl, b1⟩; have k1 := b1; obtain ⟨x10, x11, -⟩ := (PA.out.later k1).two; obtain ⟨y10, y11, y12, y13, y14, y15, -⟩ := (NV.out.later k1).six) | (go_at_call_of 87 (Value.int IntKind.u64 (u1 : Int)); refine (q5.out _).mono ?_; rintro e w12 ⟨rfl, b2⟩; have k2 := k1.trans (b2.mono k1.size); obtain ⟨x20, x21, -⟩ := (PA.out.later k2).two; obtain ⟨y20, y21, y22, y23, y24, y25, -⟩ := (NV.out.later k2).six) | (go_at_call 179; refine (qr.out _ _).mono ?_; rintro e w13 ⟨rfl, b3⟩; have k3 := k2.trans (b3.mono k2.size); obtain ⟨s0, s1, s2, s3, s4, s5, s6, s7, s8, s9, s10, s11⟩ := (OV.out.later k3).six; obtain ⟨t0, t1, t2, t3, t4, t5⟩ := ((FV.out.later k3).far6 (h := w.heap.size) (by omega) (.int .i64 0) (.bool false) (.int .u64 0) (.int .u64 0) (.int .u64 0) (.int .u64 0)).three))
    have ZA := ((OV.out.later k3).set6 (.int .i64 0) (.bool false) (.int .u64 0) (.int .u64 0) (.int .u64 0) (.int .u64 0)).far3 (h := (w.heap.size + 1)) (by omega) (.bool true) (.int .i64 4) (.int .i64 7)
    have ZF := ((FV.out.later k3).far6 (h := w.heap.size) (by omega) (.int .i64 0) (.bool false) (.int .u64 0) (.int .u64 0) (.int .u64 0) (.int .u64 0)).set3 (.bool true) (.int .i64 4) (.int .i64 7)
    obtain ⟨h0, h1, h2, h3, h4, h5, -⟩ := ZA.six
    obtain ⟨h6, h7, h8, -⟩ := ZF.three
    exact bodyPost_ret (v := .tuple #[.agg #[.int .i64 0, .bool false, .int .u64 0, .int .u64 0, .int .u64 0, .int .u64 0], .int .i64 0, .agg #[.bool true, .int .i64 4, .int .i64 7]]) (by simp [results, Tryz.results168, go_sem, h0, h1, h2, h3, h4, h5, h6, h7, h8]) rfl ⟨congrArg _ e.out, below_set3 (g := (w.heap.size + 1)) (below_set6 (g := w.heap.size) (BV.out.trans (k3.mono BV.out.size)) (by omega) _ _ _ _ _ _) (by omega) _ _ _⟩
  · have e : Hid (Value.tuple #[.agg #[.int .i64 (j : Int), .bool false, .int .u64 (x : Int), .int .u64 (y : Int), .int .u64 (0 : Int), .int .u64 (0 : Int)], .int .i64 (4 + (s : Int)), .agg #[.bool false, .int .i64 0, .int .i64 0]] = R) := h_ (by rw [← HR.out]; rfl)
    obtain ⟨x00, x01, -⟩ := PA.out.two
    obtain ⟨y00, y01, y02, y03, y04, y05, -⟩ := NV.out.six
    go_upto_region 23 with (first | ((go_at_call_of 88 (Value.int IntKind.u64 (x : Int)); go_at_call_of 88 (Value.int IntKind.u64 (p1' : Int))); refine (q4.out _).mono ?_; rintro e w11 ⟨rfl, b1⟩; have k1 := b1; obtain ⟨x10, x11, -⟩ := (PA.out.later k1).two; obtain ⟨y10, y11, y12, y13, y14, y15, -⟩ := (NV.out.later k1).six) | (go_at_call_of 87 (Value.int IntKind.u64 (u1 : Int)); refine (q5.out _).mono ?_; rintro e w12 ⟨rfl, b2⟩; have k2 := k1.trans (b2.mono k1.size); obtain ⟨x20, x21, -⟩ := (PA.out.later k2).two; obtain ⟨y20, y21, y22, y23, y24, y25, -⟩ := (NV.out.later k2).six))
    have OD : AB w12.drew w.heap.size 59 [.int .i64 0, .bool false, .int .u64 0, .int .u64 0, .int .u64 0, .int .u64 0] := OV.out.later k2.drew
    have FD : AB w12.drew (w.heap.size + 1) 44 [.bool false, .int .i64 0, .int .i64 0] := FV.out.later k2.drew
    obtain ⟨s0, s1, s2, s3, s4, s5, s6, s7, s8, s9, s10, s11⟩ := OD.six
    obtain ⟨t0, t1, t2, t3, t4, t5⟩ := (FD.far6 (h := w.heap.size) (by omega) (.int .i64 (j : Int)) (.bool false) (.int .u64 (x : Int)) (.int .u64 (y : Int)) (.int .u64 (0 : Int)) (.int .u64 (0 : Int))).three
    obtain ⟨h0, h1, h2, h3, h4, h5, -⟩ := ((OD.set6 (.int .i64 (j : Int)) (.bool false) (.int .u64 (x : Int)) (.int .u64 (y : Int)) (.int .u64 (0 : Int)) (.int .u64 (0 : Int))).far3 (h := (w.heap.size + 1)) (by omega) (.bool false) (.int .i64 0) (.int .i64 0)).six
    obtain ⟨h6, h7, h8, -⟩ := ((FD.far6 (h := w.heap.size) (by omega) (.int .i64 (j : Int)) (.bool false) (.int .u64 (x : Int)) (.int .u64 (y : Int)) (.int .u64 (0 : Int)) (.int .u64 (0 : Int))).set3 (.bool false) (.int .i64 0) (.int .i64 0)).three
    clear OD FD
    obtain ⟨a0, a1, a2, a3, a4, a5, -⟩ := (NV.out.later k2).six
    have a6 := cell_later k2 hd3.out
    have a7 := BV.out.trans (k2.mono BV.out.size)
    have hbb : bb < w.heap.size := bbw
    refine wp_region_held_drew (S := (fun w' => w'.cell? ⟨g, 0, none⟩ = some (.int .i64 (j : Int)) ∧ w'.cell? ⟨g, 1, none⟩ = some (.bool false) ∧ w'.cell? ⟨g, 2, none⟩ = some (.int .u64 (x : Int)) ∧ w'.cell? ⟨g, 3, none⟩ = some (.int .u64 (y : Int)) ∧ w'.cell? ⟨g, 4, none⟩ = some (.int .u64 (0 : Int)) ∧ w'.cell? ⟨g, 5, none⟩ = some (.int .u64 (0 : Int)) ∧ w'.cell? ⟨bb, off + 3, none⟩ = some (.int .u8 ((s : Int))) ∧ Below w.heap.size w w')) (by kernel_rfl) (⟨a0, a1, a2, a3, a4, a5, a6, a7.drew⟩) (fun hHeld => ?_)
    generalize w12.drew = D at *
    refine tR 0 ?_ (some 154) rfl (by kernel_rfl) rfl (by rfl) ?_ (fun _ _ _ h => h) (by assumption) ?_
    rotate_left
    · intro w hSw; (try dsimp only at hSw); go_simp; (try with_reducible rfl)
    simp only [Act.put, sIb, sCz, sCs]
    refine tR 1 ?_ (some 155) rfl (by kernel_rfl) rfl (by rfl) ?_ (fun _ _ _ h => h) (by assumption) ?_
    rotate_left
    · intro w hSw; (try dsimp only at hSw); go_simp; (try with_reducible rfl)
    simp only [Act.put, sIb, sCz, sCs]
    refine tR 2 ?_ (some 156) rfl (by kernel_rfl) rfl (by rfl) ?_ (fun _ _ _ h => h) (by assumption) ?_
    rotate_left
    · intro w hSw; (try dsimp only at hSw); go_simp; (try with_reducible rfl)
    simp only [Act.put, sIb, sCz, sCs]
    refine tR 3 ?_ (some 157) rfl (by kernel_rfl) rfl (by rfl) ?_ (fun _ _ _ h => h) (by assumption) ?_
    rotate_left
    · intro w hSw; (try dsimp only at hSw); go_simp; (try with_reducible rfl)
    simp only [Act.put, sIb, sCz, sCs]
    refine tR 4 ?_ (some 158) rfl (by kernel_rfl) rfl (by rfl) ?_ (fun _ _ _ h => h) (by assumption) ?_
    rotate_left
    · intro w hSw; (try dsimp only at hSw); go_simp; (try with_reducible rfl)
    simp only [Act.put, sIb, sCz, sCs]
    refine tR 5 ?_ (some 159) rfl (by kernel_rfl) rfl (by rfl) ?_ (fun _ _ _ h => h) (by assumption) ?_
    rotate_left
    · intro w hSw; (try dsimp only at hSw); go_simp; (try with_reducible rfl)
    simp only [Act.put, sIb, sCz, sCs]
    refine tR 6 ?_ (some 160) rfl (by kernel_rfl) rfl (by rfl) ?_ (fun _ _ _ h => h) (by assumption) ?_
    rotate_left
    · intro w hSw; (try dsimp only at hSw); go_simp; (try with_reducible rfl)
    simp only [Act.put, sIb, sCz, sCs]
    refine wpAnyH_ready (rs := [7]) (by kernel_rfl) (by simp) ?_
    refine AllReadyH.cons rfl (fun K hK => ?_) (AllReadyH.nil)
    go_simp
    refine hK.out _ _ (kW6_7 hHeld (by omega) (by dsimp only; omega) (by dsimp only; omega) (by dsimp only; omega) (by dsimp only; omega) (by dsimp only; omega) (by dsimp only; omega) (by dsimp only; omega)) (fun hHeld => ?_)
    clear hK K
    try simp only [Act.put, sIb, sCz, sCs]
    refine tR 8 ?_ (some 3) rfl (by kernel_rfl) rfl (by rfl) ?_ (fun _ _ _ h => h) (by assumption) ?_
    rotate_left
    · intro w hSw; (try dsimp only at hSw); go_simp; (try with_reducible rfl)
    simp only [Act.put, sIb, sCz, sCs]
    refine wpAnyH_ready (rs := [9]) (by kernel_rfl) (by simp) ?_
    refine AllReadyH.cons rfl (fun K hK => ?_) (AllReadyH.nil)
    go_simp
    refine hK.out _ _ (kW3_7 hHeld (by omega) (by dsimp only; omega) (by dsimp only; omega) (by dsimp only; omega) (by dsimp only; omega) (by dsimp only; omega) (by dsimp only; omega) (by dsimp only; omega)) (fun hHeld => ?_)
    clear hK K
    try simp only [Act.put, sIb, sCz, sCs]
    refine wpAnyH_done (by kernel_rfl) ?_ _
    go_wp2_with fail
    exact bodyPost_ret (v := .tuple #[.agg #[.int .i64 (j : Int), .bool false, .int .u64 (x : Int), .int .u64 (y : Int), .int .u64 (0 : Int), .int .u64 (0 : Int)], .int .i64 (4 + (s : Int)), .agg #[.bool false, .int .i64 0, .int .i64 0]]) (by simp [results, Tryz.results168, go_sem, h0, h1, h2, h3, h4, h5, h6, h7, h8]) rfl ⟨congrArg _ e.out, hHeld.2.2.2.2.2.2.2⟩
end Go.Proofs.YthhijfphfcmniaaGreat
