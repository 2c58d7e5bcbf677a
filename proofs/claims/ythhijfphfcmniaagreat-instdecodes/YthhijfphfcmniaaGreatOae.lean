import Derived.Test.YthhijfphfcmniaaGreatXhe
import Derived.Deep.RegionHeld3
import Derived.Deep.RegionWith
import Derived.Deep.MidRow
import Derived.Deep.Cut
set_option maxRecDepth 100000
set_option maxHeartbeats 8000000
set_option linter.unusedVariables false
set_option linter.unusedSimpArgs false
namespace Go.Proofs.YthhijfphfcmniaaGreat
open Go Go.RowKit
def ov (f : Int) (m : Bool) (a b c d : Nat) : Value := .agg #[.int .i64 f, .bool m, .int .u64 (a : Int), .int .u64 (b : Int), .int .u64 (c : Int), .int .u64 (d : Int)]
def fv (is : Bool) (t c : Int) : Value := .agg #[.bool is, .int .i64 t, .int .i64 c]
def fcode (k : Int) : Value := if k = 0 then fv false 0 0 else fv true 4 k
def LH (f : Int) : Nat := lowb (fbits f - 64)
def LL (f : Int) : Nat := lowb (min (fbits f) 64)
theorem LH_lt (f : Int) : LH f < 18446744073709551616 := lowb_lt _ (by have := fbits_le f; omega)
theorem LL_lt (f : Int) : LL f < 18446744073709551616 := lowb_lt _ (Nat.min_le_right _ _)
theorem cl_fb (f : Int) : cl ((fbits f : Nat) : Int) 128 = fbits f := by
  have := fbits_le f
  unfold cl; omega
theorem lowf (f : Int) (w : World) : Calls Tryz.prog 48 #[.int .i64 (fbits f : Nat)] w fun e w' => e = .returned (wd (LH f) (LL f)) ∧ Below w.heap.size w w' := by
  have := low_any ((fbits f : Nat) : Int) w
  rw [cl_fb] at this
  exact this
theorem rlowf (f : Int) (w : World) : Calls Tryz.prog 152 #[.int .i64 (fbits f : Nat)] w fun e w' => e = .returned (wd (LH f) (LL f)) ∧ Below w.heap.size w w' := by
  have := rlow_any ((fbits f : Nat) : Int) w
  rw [cl_fb] at this
  exact this
def wi (a b x y : Nat) : Bool := andn a x == 0 && andn b y == 0
def zz (a b : Nat) : Bool := a == 0 && b == 0
def chk (f : Int) (m : Bool) (a b c d : Nat) : Int :=
  match wi a b (LH f) (LL f), m, wi c d (LH f) (LL f), zz c d, wi a b c d with
  | false, _, _, _, _ => 7
  | true, false, _, _, _ => 0
  | true, true, false, _, _ => 8
  | true, true, true, true, _ => 8
  | true, true, true, false, false => 5
  | true, true, true, false, true => 0
def rgt (f : Int) (m : Bool) (a b c d : Nat) : Bool := fok f && (decide (chk f m a b c d = 0) && (match m with | true => fmask f | false => zz c d))
theorem AB.six {w : World} {g : Nat} {ty : TypeId} {a b c d e f : Value} (h : AB w g ty [a, b, c, d, e, f]) : w.cell? ⟨g, 0, none⟩ = some a ∧ w.cell? ⟨g, 1, none⟩ = some b ∧ w.cell? ⟨g, 2, none⟩ = some c ∧ w.cell? ⟨g, 3, none⟩ = some d ∧ w.cell? ⟨g, 4, none⟩ = some e ∧ w.cell? ⟨g, 5, none⟩ = some f ∧ w.frozen? ⟨g, 0, none⟩ = false ∧ w.frozen? ⟨g, 1, none⟩ = false ∧ w.frozen? ⟨g, 2, none⟩ = false ∧ w.frozen? ⟨g, 3, none⟩ = false ∧ w.frozen? ⟨g, 4, none⟩ = false ∧ w.frozen? ⟨g, 5, none⟩ = false :=
  ⟨(h.cell (j := 0) rfl).1, (h.cell (j := 1) rfl).1, (h.cell (j := 2) rfl).1, (h.cell (j := 3) rfl).1, (h.cell (j := 4) rfl).1, (h.cell (j := 5) rfl).1, (h.cell (j := 0) rfl).2, (h.cell (j := 1) rfl).2, (h.cell (j := 2) rfl).2, (h.cell (j := 3) rfl).2, (h.cell (j := 4) rfl).2, (h.cell (j := 5) rfl).2⟩
theorem AB.three {w : World} {g : Nat} {ty : TypeId} {a b c : Value} (h : AB w g ty [a, b, c]) : w.cell? ⟨g, 0, none⟩ = some a ∧ w.cell? ⟨g, 1, none⟩ = some b ∧ w.cell? ⟨g, 2, none⟩ = some c ∧ w.frozen? ⟨g, 0, none⟩ = false ∧ w.frozen? ⟨g, 1, none⟩ = false ∧ w.frozen? ⟨g, 2, none⟩ = false :=
  ⟨(h.cell (j := 0) rfl).1, (h.cell (j := 1) rfl).1, (h.cell (j := 2) rfl).1, (h.cell (j := 0) rfl).2, (h.cell (j := 1) rfl).2, (h.cell (j := 2) rfl).2⟩
theorem AB.set3 {w : World} {g : Nat} {ty : TypeId} {a b c : Value} (h : AB w g ty [a, b, c]) (x y z : Value) : AB (((w.setCell ⟨g, 0, none⟩ x).setCell ⟨g, 1, none⟩ y).setCell ⟨g, 2, none⟩ z) g ty [x, y, z] := ((h.set (j := 0) x).set (j := 1) y).set (j := 2) z
theorem below_set3 {w0 w : World} {g n : Nat} (h : Below n w0 w) (hg : n ≤ g) (x y z : Value) : Below n w0 (((w.setCell ⟨g, 0, none⟩ x).setCell ⟨g, 1, none⟩ y).setCell ⟨g, 2, none⟩ z) := ((h.setCell hg x).setCell hg y).setCell hg z
theorem kN3 {p0 p1 p2 : Addr} {x0 x1 x2 : Value} {w0 wa wb : World} (k : Below wa.heap.size wa wb) (h : wa.cell? p0 = some x0 ∧ wa.cell? p1 = some x1 ∧ wa.cell? p2 = some x2 ∧ Below w0.heap.size w0 wa) : wb.cell? p0 = some x0 ∧ wb.cell? p1 = some x1 ∧ wb.cell? p2 = some x2 ∧ Below w0.heap.size w0 wb :=
  ⟨cell_later k h.1, cell_later k h.2.1, cell_later k h.2.2.1, h.2.2.2.trans (k.mono h.2.2.2.size)⟩
theorem kN6 {p0 p1 p2 p3 p4 p5 : Addr} {x0 x1 x2 x3 x4 x5 : Value} {w0 wa wb : World} (k : Below wa.heap.size wa wb) (h : wa.cell? p0 = some x0 ∧ wa.cell? p1 = some x1 ∧ wa.cell? p2 = some x2 ∧ wa.cell? p3 = some x3 ∧ wa.cell? p4 = some x4 ∧ wa.cell? p5 = some x5 ∧ Below w0.heap.size w0 wa) : wb.cell? p0 = some x0 ∧ wb.cell? p1 = some x1 ∧ wb.cell? p2 = some x2 ∧ wb.cell? p3 = some x3 ∧ wb.cell? p4 = some x4 ∧ wb.cell? p5 = some x5 ∧ Below w0.heap.size w0 wb :=
  ⟨cell_later k h.1, cell_later k h.2.1, cell_later k h.2.2.1, cell_later k h.2.2.2.1, cell_later k h.2.2.2.2.1, cell_later k h.2.2.2.2.2.1, h.2.2.2.2.2.2.trans (k.mono h.2.2.2.2.2.2.size)⟩
theorem owithin_any (a b c d : Nat) (w : World) (ha : a < 18446744073709551616) (hb : b < 18446744073709551616) (hc : c < 18446744073709551616) (hd : d < 18446744073709551616) :
    Calls Tryz.prog 173 #[wd a b, wd c d] w fun e w' => e = .returned (.bool (wi a b c d)) ∧ Below w.heap.size w w' := by
  have q1 := h_ (fun w => less_any a b c d w ha hb hc hd)
  have q2 : Hid (∀ w, Calls Tryz.prog 79 #[wd (andn a c) (andn b d)] w fun e w' => e = .returned (.bool (wi a b c d)) ∧ Below w.heap.size w w') := h_ (fun w => zero_any (andn a c) (andn b d) w)
  generalize wi a b c d = z at *
  generalize andn a c = x at *
  generalize andn b d = y at *
  clear ha hb hc hd
  have HB := h_ (below2 w (.cells #[.int .u64 (a : Int), .int .u64 (b : Int)] 31) (.cells #[.int .u64 (c : Int), .int .u64 (d : Int)] 31))
  unfold wd at *
  go_enter Tryz.func173, Tryz.ntmps173
  go_wp2_with (first | (go_at_call 80; refine (q1.out _).mono ?_; rintro e w1 ⟨rfl, b1⟩) | (go_at_call 79; refine (q2.out _).mono ?_; rintro e w2 ⟨rfl, b2⟩))
  go_ret
  exact ⟨rfl, HB.out.trans ((b1.trans (b2.mono b1.size)).mono HB.out.size)⟩
theorem refuse_any (k : Int) (w : World) :
    Calls Tryz.prog 175 #[.int .i64 k] w fun e w' => e = .returned (fv true 4 k) ∧ Below w.heap.size w w' := by
  unfold fv
  have Z0 := AB.at0 w 44 [.bool false, .int .i64 0, .int .i64 0]
  have HB := below1 w (.cells #[.bool false, .int .i64 0, .int .i64 0] 44)
  obtain ⟨c0, c1, c2, f0, f1, f2⟩ := Z0.three
  have Z1 := Z0.set3 (.bool true) (.int .i64 4) (.int .i64 k)
  obtain ⟨h0, h1, h2, -⟩ := Z1.three
  have bb := below_set3 (g := w.heap.size) HB (Nat.le_refl _) (.bool true) (.int .i64 4) (.int .i64 k)
  clear Z0 Z1 HB
  go_enter Tryz.func175, Tryz.ntmps175
  go_wp2
  exact bodyPost_ret (v := .agg #[.bool true, .int .i64 4, .int .i64 k]) (by simp [results, Tryz.results175, go_sem]) rfl ⟨rfl, by go_grown⟩
theorem rbad_any (k : Int) (w : World) :
    Calls Tryz.prog 179 #[.int .i64 k] w fun e w' => e = .returned (fv true 4 k) ∧ Below w.heap.size w w' := by
  unfold fv
  have Z0 := AB.at0 w 44 [.bool false, .int .i64 0, .int .i64 0]
  have HB := below1 w (.cells #[.bool false, .int .i64 0, .int .i64 0] 44)
  obtain ⟨c0, c1, c2, f0, f1, f2⟩ := Z0.three
  have Z1 := Z0.set3 (.bool true) (.int .i64 4) (.int .i64 k)
  obtain ⟨h0, h1, h2, -⟩ := Z1.three
  have bb := below_set3 (g := w.heap.size) HB (Nat.le_refl _) (.bool true) (.int .i64 4) (.int .i64 k)
  clear Z0 Z1 HB
  go_enter Tryz.func179, Tryz.ntmps179
  go_wp2
  exact bodyPost_ret (v := .agg #[.bool true, .int .i64 4, .int .i64 k]) (by simp [results, Tryz.results179, go_sem]) rfl ⟨rfl, by go_grown⟩
theorem follow_any (f : Int) (m : Bool) (a b c d : Nat) (w : World) :
    Calls Tryz.prog 164 #[ov f m a b c d] w fun e w' => e = .returned (.int .i64 (match m with | true => 2 * (fsize f : Int) | false => (fsize f : Int))) ∧ Below w.heap.size w w' := by
  have q := h_ (fun w => fsize_any f w)
  have hs := fsize_le f
  generalize fsize f = s at *
  have HB := h_ (below1 w (.cells #[.int .i64 f, .bool m, .int .u64 (a : Int), .int .u64 (b : Int), .int .u64 (c : Int), .int .u64 (d : Int)] 59))
  unfold ov
  cases m
  all_goals
    go_enter Tryz.func164, Tryz.ntmps164
    go_wp2_with (go_at_call 165; refine (q.out _).mono ?_; rintro e w1 ⟨rfl, b1⟩)
    go_ret
    exact ⟨by first | rfl | (congr 2; omega) | (congr 2; rw [IntKind.wrap_i64]; omega), HB.out.trans (b1.mono HB.out.size)⟩
theorem chk1_fn (f : Int) (g x y : Nat) (w : World) (hx : x < 18446744073709551616) (hy : y < 18446744073709551616) (hg : w.cell? ⟨g, 0, none⟩ = some (.int .i64 f)) :
    Calls Tryz.prog 172 #[wd x y, .pointer (some ⟨g, 0, none⟩)] w fun e w' => e = .returned (.bool (!(wi x y (LH f) (LL f)))) ∧ Below w.heap.size w w' := by
  have q1 := h_ (fun w => fbits_any f w)
  have q2 := h_ (fun w => lowf f w)
  have q3 := h_ (fun w => owithin_any x y (LH f) (LL f) w hx hy (LH_lt f) (LL_lt f))
  generalize wi x y (LH f) (LL f) = z at *
  generalize LH f = p1 at *
  generalize LL f = p2 at *
  generalize ((fbits f : Nat) : Int) = n at *
  clear hx hy
  have HB := h_ (below1 w (.cells #[.int .u64 (x : Int), .int .u64 (y : Int)] 31))
  have o2 := cell_later HB.out hg
  obtain ⟨o0, o1, -⟩ := (AB.at0 w 31 [.int .u64 (x : Int), .int .u64 (y : Int)]).two
  clear hg
  unfold wd at *
  go_enter Tryz.func172, Tryz.ntmps172
  go_wp2_with fail
  generalize w.alloc (.cells #[.int .u64 (x : Int), .int .u64 (y : Int)] 31) = W at *
  go_region_held3 (fun w' => w'.cell? ⟨w.heap.size, 0, none⟩ = some (.int .u64 (x : Int)) ∧ w'.cell? ⟨w.heap.size, 1, none⟩ = some (.int .u64 (y : Int)) ∧ w'.cell? ⟨g, 0, none⟩ = some (.int .i64 f) ∧ Below w.heap.size w w')
    (first | (with_reducible exact kN3 b3 (by assumption)) | (with_reducible exact kN3 b2 (by assumption)) | (with_reducible exact kN3 b1 (by assumption)) | (exact ⟨o0, o1, o2, HB.out.drew⟩))
    (first | (go_at_call 174; refine (q1.out _).mono ?_; rintro e w1 ⟨rfl, b1⟩) | (go_at_call 48; refine (q2.out _).mono ?_; rintro e w2 ⟨rfl, b2⟩) | (go_at_call 173; refine (q3.out _).mono ?_; rintro e w3 ⟨rfl, b3⟩))
  all_goals
    rename_i hH
    have bel := hH.2.2.2
    clear hH
    go_wp2_with fail
    go_ret
    exact ⟨rfl, bel⟩
end Go.Proofs.YthhijfphfcmniaaGreat
