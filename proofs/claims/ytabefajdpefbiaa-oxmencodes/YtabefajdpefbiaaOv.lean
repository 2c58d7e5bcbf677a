import Derived.Test.YtabefajdpefbiaaOt
import Derived.Test.YtabefajdpefbiaaOj
import Derived.Deep.RegionHeld3
import Derived.Deep.RegionWith
import Derived.Deep.MidRow
import Derived.Deep.Cut
namespace Go.Proofs.Ytabefajdpefbiaa
open Go Go.RowKit
set_option linter.unusedVariables false
set_option linter.unusedSimpArgs false

theorem kN12 {p0 p1 p2 p3 p4 p5 p6 p7 p8 p9 p10 p11 : Addr} {x0 x1 x2 x3 x4 x5 x6 x7 x8 x9 x10 x11 : Value} {w0 wa wb : World} (k : Below wa.heap.size wa wb) (h : wa.cell? p0 = some x0 ∧ wa.cell? p1 = some x1 ∧ wa.cell? p2 = some x2 ∧ wa.cell? p3 = some x3 ∧ wa.cell? p4 = some x4 ∧ wa.cell? p5 = some x5 ∧ wa.cell? p6 = some x6 ∧ wa.cell? p7 = some x7 ∧ wa.cell? p8 = some x8 ∧ wa.cell? p9 = some x9 ∧ wa.cell? p10 = some x10 ∧ wa.cell? p11 = some x11 ∧ Below w0.heap.size w0 wa) : wb.cell? p0 = some x0 ∧ wb.cell? p1 = some x1 ∧ wb.cell? p2 = some x2 ∧ wb.cell? p3 = some x3 ∧ wb.cell? p4 = some x4 ∧ wb.cell? p5 = some x5 ∧ wb.cell? p6 = some x6 ∧ wb.cell? p7 = some x7 ∧ wb.cell? p8 = some x8 ∧ wb.cell? p9 = some x9 ∧ wb.cell? p10 = some x10 ∧ wb.cell? p11 = some x11 ∧ Below w0.heap.size w0 wb :=
  ⟨cell_later k h.1, cell_later k h.2.1, cell_later k h.2.2.1, cell_later k h.2.2.2.1, cell_later k h.2.2.2.2.1, cell_later k h.2.2.2.2.2.1, cell_later k h.2.2.2.2.2.2.1, cell_later k h.2.2.2.2.2.2.2.1, cell_later k h.2.2.2.2.2.2.2.2.1, cell_later k h.2.2.2.2.2.2.2.2.2.1, cell_later k h.2.2.2.2.2.2.2.2.2.2.1, cell_later k h.2.2.2.2.2.2.2.2.2.2.2.1, h.2.2.2.2.2.2.2.2.2.2.2.2.trans (k.mono h.2.2.2.2.2.2.2.2.2.2.2.2.size)⟩
def ternV (f : Int) (m : Bool) (a b c d : Nat) : Value := match fok f, m with | false, _ => td 0 0 0 0 | true, true => td a b c d | true, false => td a b (LH f) (LL f)
set_option maxRecDepth 100000 in
set_option maxHeartbeats 8000000 in
theorem tern_form (f : Int) (m : Bool) (a b c d : Nat) : ∃ p q r s : Nat, ternV f m a b c d = td p q r s := by
  unfold ternV
  split <;> exact ⟨_, _, _, _, rfl⟩
/-- both encodings are alike -/
theorem enc_form (f : Int) (m : Bool) (a b c d : Nat) (ha : a < 18446744073709551616) (hb : b < 18446744073709551616) (hc : c < 18446744073709551616) (hd : d < 18446744073709551616) : ∃ L e, (∀ w, Calls Try.prog 7 #[ov f m a b c d] w fun x w' => ∃ r, x = .returned (.tuple #[r, .int .i64 e]) ∧ Bytes w' r L ∧ Below w.heap.size w w') ∧ (∀ w, Calls Try.prog 8 #[ov f m a b c d] w fun x w' => ∃ r, x = .returned (.tuple #[r, .int .i64 e]) ∧ Bytes w' r L ∧ Below w.heap.size w w') := by
  cases h : rgt f m a b c d
  · exact ⟨[], 1, fun w => (oenc_no f m a b c d w ha hb hc hd h).mono fun x w' ⟨h1, h2⟩ => ⟨_, h1, Bytes.nil _, h2⟩, fun w => (roenc_no f m a b c d w ha hb hc hd h).mono fun x w' ⟨h1, h2⟩ => ⟨_, h1, Bytes.nil _, h2⟩⟩
  · cases m
    · exact ⟨_, 0, fun w => oenc_yes0 f a b c d w ha hb hc hd h, fun w => roenc_yes0 f a b c d w ha hb hc hd h⟩
    · exact ⟨_, 0, fun w => oenc_yes1 f a b c d w ha hb hc hd h, fun w => roenc_yes1 f a b c d w ha hb hc hd h⟩
set_option maxRecDepth 100000 in
set_option maxHeartbeats 8000000 in
theorem oxmEncodes_walk (f : Int) (m : Bool) (a b c d : Nat) (f2 : Int) (m2 : Bool) (a2 b2 c2 d2 : Nat) (w : World) (ha : a < 18446744073709551616) (hb : b < 18446744073709551616) (hc : c < 18446744073709551616) (hd : d < 18446744073709551616) (ha2 : a2 < 18446744073709551616) (hb2 : b2 < 18446744073709551616) (hc2 : c2 < 18446744073709551616) (hd2 : d2 < 18446744073709551616) :
    Calls Try.prog 3 #[ov f m a b c d, ov f2 m2 a2 b2 c2 d2] w fun e w' => e = .returned (.bool true) ∧ Below w.heap.size w w' := by
  obtain ⟨L, er, p1, p2⟩ := enc_form f m a b c d ha hb hc hd
  have p1 := hide_ p1
  have p2 := hide_ p2
  have q1 := hide_ (fun w => oright_any f m a b c d w ha hb hc hd)
  have q2 := hide_ (fun w => roright_any f m a b c d w ha hb hc hd)
  obtain ⟨t1, t2, t3, t4, htf⟩ := tern_form f m a b c d
  have q3 : ∀ w, Calls Try.prog 12 #[ov f m a b c d] w fun e w' => e = .returned (ternV f m a b c d) ∧ Below w.heap.size w w' := fun w => otern_any f m a b c d w
  have q4 : ∀ w, Calls Try.prog 13 #[ov f m a b c d] w fun e w' => e = .returned (ternV f m a b c d) ∧ Below w.heap.size w w' := fun w => rotern_any f m a b c d w
  rw [htf] at q3 q4
  have q3 := hide_ q3
  have q4 := hide_ q4
  have q5 := hide_ (fun w => osame_any f m a b c d f2 m2 a2 b2 c2 d2 w)
  have q6 := hide_ (fun w => rosame_any f m a b c d f2 m2 a2 b2 c2 d2 w)
  have aw := hide_ (fun w => awake10_any w)
  have qe0 := fun v u w hv hu => equal_any v u L L w hv hu
  generalize rgt f m a b c d = z1 at *
  generalize decide ((f, m, a, b, c, d) = (f2, m2, a2, b2, c2, d2)) = z2 at *
  clear ha hb hc hd ha2 hb2 hc2 hd2 htf
  have A0 := hide_ ((AB.at0 w 26 [.int .i64 f, .bool m, .int .u64 (a : Int), .int .u64 (b : Int), .int .u64 (c : Int), .int .u64 (d : Int)]).alloc (.cells #[.int .i64 f2, .bool m2, .int .u64 (a2 : Int), .int .u64 (b2 : Int), .int .u64 (c2 : Int), .int .u64 (d2 : Int)] 26))
  have C0 := hide_ (AB.at1 w (.cells #[.int .i64 f, .bool m, .int .u64 (a : Int), .int .u64 (b : Int), .int .u64 (c : Int), .int .u64 (d : Int)] 26) 26 [.int .i64 f2, .bool m2, .int .u64 (a2 : Int), .int .u64 (b2 : Int), .int .u64 (c2 : Int), .int .u64 (d2 : Int)])
  have B0 := hide_ (below2 w (.cells #[.int .i64 f, .bool m, .int .u64 (a : Int), .int .u64 (b : Int), .int .u64 (c : Int), .int .u64 (d : Int)] 26) (.cells #[.int .i64 f2, .bool m2, .int .u64 (a2 : Int), .int .u64 (b2 : Int), .int .u64 (c2 : Int), .int .u64 (d2 : Int)] 26))
  obtain ⟨y0, y1, y2, y3, y4, y5, -⟩ := A0.out.six
  unfold ov td at *
  go_enter Try.func3, Try.ntmps3
  go_upto_region 3 with (first | (go_at_call 7; refine (p1.out _).mono ?_; rintro e w1 ⟨r1, rfl, h1, k1⟩; have h1 := hide_ h1; obtain ⟨x0, x1, x2, x3, x4, x5, -⟩ := (A0.out.later k1).six) | (go_at_call 8; refine (p2.out _).mono ?_; rintro e w2 ⟨r2, rfl, h2, b2⟩; have h2 := hide_ h2; have k2 := k1.trans (b2.mono k1.size); have h1b := hide_ (h1.out.later b2)))
  have qe : Hid (∀ W, Below w2.heap.size w2 W → Calls Try.prog 9 #[r1, r2] W fun e W' => e = .returned (.bool true) ∧ Below W.heap.size W W') := hide_ (fun W hW => by
    have := qe0 r1 r2 W (h1b.out.later hW) (h2.out.later hW)
    rw [beq_self_eq_true] at this
    exact this)
  obtain ⟨a0, a1, a2', a3, a4, a5, -⟩ := (A0.out.later k2).six
  obtain ⟨c0, c1, c2', c3, c4, c5, -⟩ := (C0.out.later k2).six
  have HB := hide_ (B0.out.trans (k2.mono B0.out.size))
  clear y0 y1 y2 y3 y4 y5 x0 x1 x2 x3 x4 x5 qe0 h1 h2 h1b k1 b2 k2 A0 C0 B0 p1 p2
  generalize w2 = W at *
  refine wp_region_held_drew (S := (fun w' => w'.cell? ⟨w.heap.size, 0, none⟩ = some (.int .i64 f) ∧ w'.cell? ⟨w.heap.size, 1, none⟩ = some (.bool m) ∧ w'.cell? ⟨w.heap.size, 2, none⟩ = some (.int .u64 (a : Int)) ∧ w'.cell? ⟨w.heap.size, 3, none⟩ = some (.int .u64 (b : Int)) ∧ w'.cell? ⟨w.heap.size, 4, none⟩ = some (.int .u64 (c : Int)) ∧ w'.cell? ⟨w.heap.size, 5, none⟩ = some (.int .u64 (d : Int)) ∧ w'.cell? ⟨(w.heap.size + 1), 0, none⟩ = some (.int .i64 f2) ∧ w'.cell? ⟨(w.heap.size + 1), 1, none⟩ = some (.bool m2) ∧ w'.cell? ⟨(w.heap.size + 1), 2, none⟩ = some (.int .u64 (a2 : Int)) ∧ w'.cell? ⟨(w.heap.size + 1), 3, none⟩ = some (.int .u64 (b2 : Int)) ∧ w'.cell? ⟨(w.heap.size + 1), 4, none⟩ = some (.int .u64 (c2 : Int)) ∧ w'.cell? ⟨(w.heap.size + 1), 5, none⟩ = some (.int .u64 (d2 : Int)) ∧ Below W.heap.size W w')) (by kernel_rfl) (⟨a0, a1, a2', a3, a4, a5, c0, c1, c2', c3, c4, c5, (Below.refl _ _).drew⟩) (fun hHeld => ?_)
  refine takeR (i := 0) (v := ?_) rfl (by kernel_rfl) (by kernel_rfl) (by kernel_rfl) (some 19) rfl (Or.inl ⟨by rfl, ?_⟩) (fun _ _ _ h => h) (by assumption) ?_
  rotate_left
  · intro w hSw; (try dsimp only at hSw); go_simp; (try with_reducible rfl)
  simp only [Act.put, List.setIfInBounds_toArray, List.set_cons_zero, List.set_cons_succ]
  refine takeR (i := 1) (v := ?_) rfl (by kernel_rfl) (by kernel_rfl) (by kernel_rfl) (some 20) rfl (Or.inl ⟨by rfl, ?_⟩) (fun _ _ _ h => h) (by assumption) ?_
  rotate_left
  · intro w hSw; (try dsimp only at hSw); go_simp; (try with_reducible rfl)
  simp only [Act.put, List.setIfInBounds_toArray, List.set_cons_zero, List.set_cons_succ]
  refine wpAnyH_ready (rs := [2]) (by kernel_rfl) (by simp) ?_
  refine AllReadyH.cons rfl (fun K hK => ?_) (AllReadyH.nil)
  go_simp
  refine (qe.out _ (Below.refl _ _).drew).mono ?_
  rintro e w9 ⟨rfl, b9⟩
  refine hK.out _ _ (kN12 b9 hHeld) (fun hHeld => ?_)
  clear hK K
  try simp only [Act.put, List.setIfInBounds_toArray, List.set_cons_zero, List.set_cons_succ]
  refine takeR (i := 3) (v := ?_) rfl (by kernel_rfl) (by kernel_rfl) (by kernel_rfl) (some 22) rfl (Or.inl ⟨by rfl, ?_⟩) (fun _ _ _ h => h) (by assumption) ?_
  rotate_left
  · intro w hSw; (try dsimp only at hSw); go_simp; (try with_reducible rfl)
  simp only [Act.put, List.setIfInBounds_toArray, List.set_cons_zero, List.set_cons_succ]
  refine takeR (i := 4) (v := ?_) rfl (by kernel_rfl) (by kernel_rfl) (by kernel_rfl) (some 23) rfl (Or.inl ⟨by rfl, ?_⟩) (fun _ _ _ h => h) (by assumption) ?_
  rotate_left
  · intro w hSw; (try dsimp only at hSw); go_simp; (try with_reducible rfl)
  simp only [Act.put, List.setIfInBounds_toArray, List.set_cons_zero, List.set_cons_succ]
  refine takeR (i := 5) (v := ?_) rfl (by kernel_rfl) (by kernel_rfl) (by kernel_rfl) (some 24) rfl (Or.inl ⟨by rfl, ?_⟩) (fun _ _ _ h => h) (by assumption) ?_
  rotate_left
  · intro w hSw; (try dsimp only at hSw); go_simp; (try with_reducible rfl)
  simp only [Act.put, List.setIfInBounds_toArray, List.set_cons_zero, List.set_cons_succ]
  refine takeR (i := 6) (v := ?_) rfl (by kernel_rfl) (by kernel_rfl) (by kernel_rfl) (some 25) rfl (Or.inl ⟨by rfl, ?_⟩) (fun _ _ _ h => h) (by assumption) ?_
  rotate_left
  · intro w hSw; (try dsimp only at hSw); go_simp; (try with_reducible rfl)
  simp only [Act.put, List.setIfInBounds_toArray, List.set_cons_zero, List.set_cons_succ]
  refine takeR (i := 7) (v := ?_) rfl (by kernel_rfl) (by kernel_rfl) (by kernel_rfl) (some 26) rfl (Or.inl ⟨by rfl, ?_⟩) (fun _ _ _ h => h) (by assumption) ?_
  rotate_left
  · intro w hSw; (try dsimp only at hSw); go_simp; (try with_reducible rfl)
  simp only [Act.put, List.setIfInBounds_toArray, List.set_cons_zero, List.set_cons_succ]
  refine takeR (i := 8) (v := ?_) rfl (by kernel_rfl) (by kernel_rfl) (by kernel_rfl) (some 27) rfl (Or.inl ⟨by rfl, ?_⟩) (fun _ _ _ h => h) (by assumption) ?_
  rotate_left
  · intro w hSw; (try dsimp only at hSw); go_simp; (try with_reducible rfl)
  simp only [Act.put, List.setIfInBounds_toArray, List.set_cons_zero, List.set_cons_succ]
  refine takeR (i := 9) (v := ?_) rfl (by kernel_rfl) (by kernel_rfl) (by kernel_rfl) (some 28) rfl (Or.inl ⟨by rfl, ?_⟩) (fun _ _ _ h => h) (by assumption) ?_
  rotate_left
  · intro w hSw; (try dsimp only at hSw); go_simp; (try with_reducible rfl)
  simp only [Act.put, List.setIfInBounds_toArray, List.set_cons_zero, List.set_cons_succ]
  refine takeR (i := 11) (v := ?_) rfl (by kernel_rfl) (by kernel_rfl) (by kernel_rfl) (some 30) rfl (Or.inl ⟨by rfl, ?_⟩) (fun _ _ _ h => h) (by assumption) ?_
  rotate_left
  · intro w hSw; (try dsimp only at hSw); go_simp; (try with_reducible rfl)
  simp only [Act.put, List.setIfInBounds_toArray, List.set_cons_zero, List.set_cons_succ]
  refine wpAnyH_ready (rs := [10]) (by kernel_rfl) (by simp) ?_
  refine AllReadyH.cons rfl (fun K hK => ?_) (AllReadyH.nil)
  go_simp
  refine (q1.out _).mono ?_
  rintro e w9 ⟨rfl, b9⟩
  refine hK.out _ _ (kN12 b9 hHeld) (fun hHeld => ?_)
  clear hK K
  try simp only [Act.put, List.setIfInBounds_toArray, List.set_cons_zero, List.set_cons_succ]
  refine wpAnyH_ready (rs := [12]) (by kernel_rfl) (by simp) ?_
  refine AllReadyH.cons rfl (fun K hK => ?_) (AllReadyH.nil)
  go_simp
  refine (q2.out _).mono ?_
  rintro e w9 ⟨rfl, b9⟩
  refine hK.out _ _ (kN12 b9 hHeld) (fun hHeld => ?_)
  clear hK K
  try simp only [Act.put, List.setIfInBounds_toArray, List.set_cons_zero, List.set_cons_succ]
  refine takeR (i := 13) (v := ?_) rfl (by kernel_rfl) (by kernel_rfl) (by kernel_rfl) (some 32) rfl (Or.inl ⟨by rfl, ?_⟩) (fun _ _ _ h => h) (by assumption) ?_
  rotate_left
  · intro w hSw; (try dsimp only at hSw); go_simp; (try with_reducible rfl)
  simp only [Act.put, List.setIfInBounds_toArray, List.set_cons_zero, List.set_cons_succ]
  refine takeR (i := 14) (v := ?_) rfl (by kernel_rfl) (by kernel_rfl) (by kernel_rfl) (some 33) rfl (Or.inl ⟨by rfl, ?_⟩) (fun _ _ _ h => h) (by assumption) ?_
  rotate_left
  · intro w hSw; (try dsimp only at hSw); go_simp; (try with_reducible rfl)
  simp only [Act.put, List.setIfInBounds_toArray, List.set_cons_zero, List.set_cons_succ]
  refine takeR (i := 15) (v := ?_) rfl (by kernel_rfl) (by kernel_rfl) (by kernel_rfl) (some 34) rfl (Or.inl ⟨by rfl, ?_⟩) (fun _ _ _ h => h) (by assumption) ?_
  rotate_left
  · intro w hSw; (try dsimp only at hSw); go_simp; (try with_reducible rfl)
  simp only [Act.put, List.setIfInBounds_toArray, List.set_cons_zero, List.set_cons_succ]
  refine takeR (i := 16) (v := ?_) rfl (by kernel_rfl) (by kernel_rfl) (by kernel_rfl) (some 35) rfl (Or.inl ⟨by rfl, ?_⟩) (fun _ _ _ h => h) (by assumption) ?_
  rotate_left
  · intro w hSw; (try dsimp only at hSw); go_simp; (try with_reducible rfl)
  simp only [Act.put, List.setIfInBounds_toArray, List.set_cons_zero, List.set_cons_succ]
  refine takeR (i := 18) (v := ?_) rfl (by kernel_rfl) (by kernel_rfl) (by kernel_rfl) (some 37) rfl (Or.inl ⟨by rfl, ?_⟩) (fun _ _ _ h => h) (by assumption) ?_
  rotate_left
  · intro w hSw; (try dsimp only at hSw); go_simp; (try with_reducible rfl)
  simp only [Act.put, List.setIfInBounds_toArray, List.set_cons_zero, List.set_cons_succ]
  refine wpAnyH_ready (rs := [17]) (by kernel_rfl) (by simp) ?_
  refine AllReadyH.cons rfl (fun K hK => ?_) (AllReadyH.nil)
  go_simp
  refine (q3.out _).mono ?_
  rintro e w9 ⟨rfl, b9⟩
  refine hK.out _ _ (kN12 b9 hHeld) (fun hHeld => ?_)
  clear hK K
  try simp only [Act.put, List.setIfInBounds_toArray, List.set_cons_zero, List.set_cons_succ]
  refine wpAnyH_ready (rs := [19]) (by kernel_rfl) (by simp) ?_
  refine AllReadyH.cons rfl (fun K hK => ?_) (AllReadyH.nil)
  go_simp
  refine (q4.out _).mono ?_
  rintro e w9 ⟨rfl, b9⟩
  refine hK.out _ _ (kN12 b9 hHeld) (fun hHeld => ?_)
  clear hK K
  try simp only [Act.put, List.setIfInBounds_toArray, List.set_cons_zero, List.set_cons_succ]
  refine takeR (i := 20) (v := ?_) rfl (by kernel_rfl) (by kernel_rfl) (by kernel_rfl) (some 39) rfl (Or.inl ⟨by rfl, ?_⟩) (fun _ _ _ h => h) (by assumption) ?_
  rotate_left
  · intro w hSw; (try dsimp only at hSw); go_simp; (try with_reducible rfl)
  simp only [Act.put, List.setIfInBounds_toArray, List.set_cons_zero, List.set_cons_succ]
  refine takeR (i := 21) (v := ?_) rfl (by kernel_rfl) (by kernel_rfl) (by kernel_rfl) (some 40) rfl (Or.inl ⟨by rfl, ?_⟩) (fun _ _ _ h => h) (by assumption) ?_
  rotate_left
  · intro w hSw; (try dsimp only at hSw); go_simp; (try with_reducible rfl)
  simp only [Act.put, List.setIfInBounds_toArray, List.set_cons_zero, List.set_cons_succ]
  refine takeR (i := 22) (v := ?_) rfl (by kernel_rfl) (by kernel_rfl) (by kernel_rfl) (some 41) rfl (Or.inl ⟨by rfl, ?_⟩) (fun _ _ _ h => h) (by assumption) ?_
  rotate_left
  · intro w hSw; (try dsimp only at hSw); go_simp; (try with_reducible rfl)
  simp only [Act.put, List.setIfInBounds_toArray, List.set_cons_zero, List.set_cons_succ]
  refine takeR (i := 23) (v := ?_) rfl (by kernel_rfl) (by kernel_rfl) (by kernel_rfl) (some 42) rfl (Or.inl ⟨by rfl, ?_⟩) (fun _ _ _ h => h) (by assumption) ?_
  rotate_left
  · intro w hSw; (try dsimp only at hSw); go_simp; (try with_reducible rfl)
  simp only [Act.put, List.setIfInBounds_toArray, List.set_cons_zero, List.set_cons_succ]
  refine takeR (i := 24) (v := ?_) rfl (by kernel_rfl) (by kernel_rfl) (by kernel_rfl) (some 43) rfl (Or.inl ⟨by rfl, ?_⟩) (fun _ _ _ h => h) (by assumption) ?_
  rotate_left
  · intro w hSw; (try dsimp only at hSw); go_simp; (try with_reducible rfl)
  simp only [Act.put, List.setIfInBounds_toArray, List.set_cons_zero, List.set_cons_succ]
  refine takeR (i := 26) (v := ?_) rfl (by kernel_rfl) (by kernel_rfl) (by kernel_rfl) (some 45) rfl (Or.inl ⟨by rfl, ?_⟩) (fun _ _ _ h => h) (by assumption) ?_
  rotate_left
  · intro w hSw; (try dsimp only at hSw); go_simp; (try with_reducible rfl)
  simp only [Act.put, List.setIfInBounds_toArray, List.set_cons_zero, List.set_cons_succ]
  refine takeR (i := 27) (v := ?_) rfl (by kernel_rfl) (by kernel_rfl) (by kernel_rfl) (some 46) rfl (Or.inl ⟨by rfl, ?_⟩) (fun _ _ _ h => h) (by assumption) ?_
  rotate_left
  · intro w hSw; (try dsimp only at hSw); go_simp; (try with_reducible rfl)
  simp only [Act.put, List.setIfInBounds_toArray, List.set_cons_zero, List.set_cons_succ]
  refine wpAnyH_ready (rs := [25]) (by kernel_rfl) (by simp) ?_
  refine AllReadyH.cons rfl (fun K hK => ?_) (AllReadyH.nil)
  go_simp
  refine (q5.out _).mono ?_
  rintro e w9 ⟨rfl, b9⟩
  refine hK.out _ _ (kN12 b9 hHeld) (fun hHeld => ?_)
  clear hK K
  try simp only [Act.put, List.setIfInBounds_toArray, List.set_cons_zero, List.set_cons_succ]
  refine wpAnyH_ready (rs := [28]) (by kernel_rfl) (by simp) ?_
  refine AllReadyH.cons rfl (fun K hK => ?_) (AllReadyH.nil)
  go_simp
  refine (q6.out _).mono ?_
  rintro e w9 ⟨rfl, b9⟩
  refine hK.out _ _ (kN12 b9 hHeld) (fun hHeld => ?_)
  clear hK K
  try simp only [Act.put, List.setIfInBounds_toArray, List.set_cons_zero, List.set_cons_succ]
  refine takeR (i := 29) (v := ?_) rfl (by kernel_rfl) (by kernel_rfl) (by kernel_rfl) (some 48) rfl (Or.inl ⟨by rfl, ?_⟩) (fun _ _ _ h => h) (by assumption) ?_
  rotate_left
  · intro w hSw; (try dsimp only at hSw); go_simp; (try with_reducible rfl)
  simp only [Act.put, List.setIfInBounds_toArray, List.set_cons_zero, List.set_cons_succ]
  refine takeR (i := 30) (v := ?_) rfl (by kernel_rfl) (by kernel_rfl) (by kernel_rfl) (some 49) rfl (Or.inl ⟨by rfl, ?_⟩) (fun _ _ _ h => h) (by assumption) ?_
  rotate_left
  · intro w hSw; (try dsimp only at hSw); go_simp; (try with_reducible rfl)
  simp only [Act.put, List.setIfInBounds_toArray, List.set_cons_zero, List.set_cons_succ]
  refine takeR (i := 31) (v := ?_) rfl (by kernel_rfl) (by kernel_rfl) (by kernel_rfl) (some 50) rfl (Or.inl ⟨by rfl, ?_⟩) (fun _ _ _ h => h) (by assumption) ?_
  rotate_left
  · intro w hSw; (try dsimp only at hSw); go_simp; (try with_reducible rfl)
  simp only [Act.put, List.setIfInBounds_toArray, List.set_cons_zero, List.set_cons_succ]
  refine wpAnyH_ready (rs := [32]) (by kernel_rfl) (by simp) ?_
  refine AllReadyH.cons rfl (fun K hK => ?_) (AllReadyH.nil)
  go_simp
  refine (aw.out _).mono ?_
  rintro e w9 ⟨rfl, b9⟩
  refine hK.out _ _ (kN12 b9 hHeld) (fun hHeld => ?_)
  clear hK K
  try simp only [Act.put, List.setIfInBounds_toArray, List.set_cons_zero, List.set_cons_succ]
  refine takeR (i := 33) (v := ?_) rfl (by kernel_rfl) (by kernel_rfl) (by kernel_rfl) (some 52) rfl (Or.inl ⟨by rfl, ?_⟩) (fun _ _ _ h => h) (by assumption) ?_
  rotate_left
  · intro w hSw; (try dsimp only at hSw); go_simp; (try with_reducible rfl)
  simp only [Act.put, List.setIfInBounds_toArray, List.set_cons_zero, List.set_cons_succ]
  refine takeR (i := 34) (v := ?_) rfl (by kernel_rfl) (by kernel_rfl) (by kernel_rfl) (some 4) rfl (Or.inl ⟨by rfl, ?_⟩) (fun _ _ _ h => h) (by assumption) ?_
  rotate_left
  · intro w hSw; (try dsimp only at hSw); go_simp; (try with_reducible rfl)
  simp only [Act.put, List.setIfInBounds_toArray, List.set_cons_zero, List.set_cons_succ]
  refine wpAnyH_done (by kernel_rfl) ?_ _
  have bel := hHeld.2.2.2.2.2.2.2.2.2.2.2.2
  clear hHeld
  go_wp2_with fail
  go_ret
  exact ⟨rfl, HB.out.trans (bel.mono HB.out.size)⟩


end Go.Proofs.Ytabefajdpefbiaa
