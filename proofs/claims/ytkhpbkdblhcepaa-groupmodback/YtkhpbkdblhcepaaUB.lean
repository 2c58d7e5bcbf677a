import Derived.Test.YtkhpbkdblhcepaaUA
import Derived.Deep.RegionHeld3
import Derived.Deep.RegionWith
import Derived.Deep.MidRow
import Derived.Deep.Cut
namespace Go.Proofs.Ytkhpbkdblhcepaa
open Go Go.RowKit
set_option linter.unusedVariables false
set_option linter.unusedSimpArgs false

theorem nget1 (v : Value) (l : List Int) (i : Nat) (w : World) (hB : Bytes w v l) (hi : i < l.length) (h2 : i ≤ 100000) :
    Calls Try.prog 94 #[v, .int .i64 (i : Int), .int .i64 1] w fun e w' => ∃ er, e = .returned (.tuple #[.int .i64 (l.getD i 0), .int .i64 er]) ∧ Below w.heap.size w w' := by
  obtain ⟨ao, cap, rfl, h1, h2, h3, h4, h5⟩ := hB
  have hB : Bytes w (.slice ao l.length cap) l := ⟨ao, cap, rfl, h1, h2, h3, h4, h5⟩
  obtain ⟨-, -, -, hat⟩ := Bytes.at hB
  obtain ⟨b, off, rfl, c0⟩ := hat i _ (getD_some hi)
  exact (get_ok1 b off l.length cap i (l.getD i 0) w (isB_getD h3 i) (by omega) h1 h2 c0).mono fun e w' h => ⟨0, h.1, h.2⟩
def cellsF (x0 x1 x2 x3 x4 : Value) (l : List Int) : Nat → List Value
  | 0 => [x0, x1, x2, x3, x4]
  | 1 => [.int .i64 (be2 l 0), x1, x2, x3, x4]
  | 2 => [.int .i64 (be2 l 0), .int .i64 (l.getD 2 0), x2, x3, x4]
  | 3 => [.int .i64 (be2 l 0), .int .i64 (l.getD 2 0), x2, x3, .int .i64 (l.getD 3 0)]
  | _ => [.int .i64 (be2 l 0), .int .i64 (l.getD 2 0), .int .i64 (be4 l 4), x3, .int .i64 (l.getD 3 0)]
theorem AB.k5 {w : World} {g : Nat} {ty : TypeId} {a b c d e : Value} (h : AB w g ty [a, b, c, d, e]) : w.cell? ⟨g, 0, none⟩ = some a ∧ w.cell? ⟨g, 1, none⟩ = some b ∧ w.cell? ⟨g, 2, none⟩ = some c ∧ w.cell? ⟨g, 3, none⟩ = some d ∧ w.cell? ⟨g, 4, none⟩ = some e ∧ w.frozen? ⟨g, 0, none⟩ = false ∧ w.frozen? ⟨g, 1, none⟩ = false ∧ w.frozen? ⟨g, 2, none⟩ = false ∧ w.frozen? ⟨g, 3, none⟩ = false ∧ w.frozen? ⟨g, 4, none⟩ = false :=
  ⟨(h.cell (j := 0) rfl).1, (h.cell (j := 1) rfl).1, (h.cell (j := 2) rfl).1, (h.cell (j := 3) rfl).1, (h.cell (j := 4) rfl).1, (h.cell (j := 0) rfl).2, (h.cell (j := 1) rfl).2, (h.cell (j := 2) rfl).2, (h.cell (j := 3) rfl).2, (h.cell (j := 4) rfl).2⟩
set_option maxRecDepth 100000 in
set_option maxHeartbeats 8000000 in
theorem gread_any (v : Value) (l : List Int) (g fb : Nat) (x0 x1 x2 x3 x4 : Value) (w0 w : World) (hB : Bytes w0 v l) (h8 : 8 ≤ l.length) (hb : Below w0.heap.size w0 w) (hg : w0.heap.size ≤ g) (hne : fb ≠ g) (hA : AB w g 105 [x0, x1, x2, x3, x4]) (hF : AB w fb 107 [.pointer (some ⟨g, 0, none⟩), .pointer (some ⟨g, 1, none⟩), .pointer (some ⟨g, 4, none⟩), .pointer (some ⟨g, 2, none⟩)]) :
    Calls Try.prog 67 #[v, .slice (some ⟨fb, 0, none⟩) 4 4] w fun e w' => e = .returned (.tuple #[]) ∧ AB w' g 105 [.int .i64 (be2 l 0), .int .i64 (l.getD 2 0), .int .i64 (be4 l 4), x3, .int .i64 (l.getD 3 0)] ∧ Below w0.heap.size w0 w' := by
  obtain ⟨av, cv, rfl⟩ := hB.short
  generalize hv : Value.slice av l.length cv = v at *
  have HB0 := hide_ hB
  have H8 := hide_ h8
  have hgw := hA.lt
  have K0 := hide_ hb
  have A0 := hide_ hA
  have F0 := hide_ hF
  clear hB h8 hb hA hF
  go_enter Try.func67, Try.ntmps67
  go_wp2_with (go_at_call 106; refine (gsizes_any _).mono ?_; rintro e w1 ⟨rfl, b1⟩; have hgw1 := b1.size; have K1 := hide_ (K0.out.trans ((b1.trans ((below1 w1 (.cells #[.int .i64 2, .int .i64 1, .int .i64 1, .int .i64 4] 112)).mono b1.size)).mono K0.out.size)); have j1 := b1.trans ((below1 w1 (.cells #[.int .i64 2, .int .i64 1, .int .i64 1, .int .i64 4] 112)).mono b1.size); have A1 := hide_ (A0.out.later j1); have F1 := hide_ (F0.out.later j1); have N1 := hide_ (AB.at0 w1 112 [.int .i64 2, .int .i64 1, .int .i64 1, .int .i64 4]); clear b1 j1)
  have hg1 : w1.heap.size ≠ g := by omega
  generalize w1.heap.size = g1 at *
  go_loopw [5, 11] (fun at_ ix wr => ∃ (j : Nat) (jz az : Int), j ≤ 4 ∧ ix = .int .i64 jz ∧ Hid (jz = (j : Int)) ∧ at_ = .int .i64 az ∧ Hid (az = ((match j with | 0 => 0 | 1 => 2 | 2 => 3 | 3 => 4 | _ => 8 : Nat) : Int)) ∧ Hid (AB wr g 105 (cellsF x0 x1 x2 x3 x4 l j)) ∧ Hid (AB wr fb 107 [.pointer (some ⟨g, 0, none⟩), .pointer (some ⟨g, 1, none⟩), .pointer (some ⟨g, 4, none⟩), .pointer (some ⟨g, 2, none⟩)]) ∧ Hid (AB wr g1 112 [.int .i64 2, .int .i64 1, .int .i64 1, .int .i64 4]) ∧ Hid (Below w0.heap.size w0 wr)) (fun _ ix _ => 4 - (intOf ix).toNat)
  case atStart => exact ⟨0, 0, 0, by omega, rfl, hide_ rfl, rfl, hide_ rfl, A1, F1, N1, K1⟩
  case round =>
    clear A1 F1 N1 K1 A0 F0 K0
    obtain ⟨j, jz, az, hj, rfl, HJZ, rfl, HAZ, HA, HF, HN, KB⟩ := hrel
    obtain ⟨n0, n1, n2, n3, -⟩ := HN.out.k4
    obtain ⟨y0, y1, y2, y3, -⟩ := HF.out.k4
    have hcs : j = 0 ∨ j = 1 ∨ j = 2 ∨ j = 3 ∨ j = 4 := by omega
    rcases hcs with rfl | rfl | rfl | rfl | rfl
    · have hz : jz = 0 := HJZ.out
      have ha : az = 0 := HAZ.out
      subst hz
      subst ha
      clear HJZ HAZ hj
      have q : Hid (Calls Try.prog 94 #[v, .int .i64 0, .int .i64 2] wr fun e w' => ∃ er, e = .returned (.tuple #[.int .i64 (be2 l 0), .int .i64 er]) ∧ Below wr.heap.size wr w') := hide_ (by have := nget2 v l 0 wr (HB0.out.later KB.out) (by omega); simpa using this)
      obtain ⟨-, -, -, -, -, f0, f1, f2, f3, f4⟩ := (show AB wr g 105 [x0, x1, x2, x3, x4] from HA.out).k5
      go_wp2_with (go_at_call 94; refine q.out.mono ?_; rintro e w5 ⟨er, rfl, b5⟩; have HA5 : Hid (AB w5 g 105 [x0, x1, x2, x3, x4]) := hide_ (HA.out.later b5); have HF5 := hide_ (HF.out.later b5); have HN5 := hide_ (HN.out.later b5); have KB5 := hide_ (KB.out.trans (b5.mono KB.out.size)); obtain ⟨c0, c1, c2, c3, c4, d0, d1, d2, d3, d4⟩ := HA5.out.k5; obtain ⟨m0, m1, m2, m3, -⟩ := HN5.out.k4; have hsz5 := hide_ b5.size; clear b5)
      go_roundw
      case rel => exact ⟨1, 1, 2, by omega, by first | rfl | go_num, hide_ rfl, by first | rfl | go_num, hide_ rfl, hide_ (HA5.out.set (j := 0) _), hide_ (HF5.out.far _ hne), hide_ (HN5.out.far _ (by omega)), hide_ (KB5.out.setCell (p := ⟨g, 0, none⟩) hg _)⟩
      case measure => simp [intOf]
    · have hz : jz = 1 := HJZ.out
      have ha : az = 2 := HAZ.out
      subst hz
      subst ha
      clear HJZ HAZ hj
      have q : Hid (Calls Try.prog 94 #[v, .int .i64 2, .int .i64 1] wr fun e w' => ∃ er, e = .returned (.tuple #[.int .i64 (l.getD 2 0), .int .i64 er]) ∧ Below wr.heap.size wr w') := hide_ (by have := nget1 v l 2 wr (HB0.out.later KB.out) (by have := H8.out; omega) (by omega); simpa using this)
      obtain ⟨-, -, -, -, -, f0, f1, f2, f3, f4⟩ := (show AB wr g 105 [.int .i64 (be2 l 0), x1, x2, x3, x4] from HA.out).k5
      go_wp2_with (go_at_call 94; refine q.out.mono ?_; rintro e w5 ⟨er, rfl, b5⟩; have HA5 : Hid (AB w5 g 105 [.int .i64 (be2 l 0), x1, x2, x3, x4]) := hide_ (HA.out.later b5); have HF5 := hide_ (HF.out.later b5); have HN5 := hide_ (HN.out.later b5); have KB5 := hide_ (KB.out.trans (b5.mono KB.out.size)); obtain ⟨c0, c1, c2, c3, c4, d0, d1, d2, d3, d4⟩ := HA5.out.k5; obtain ⟨m0, m1, m2, m3, -⟩ := HN5.out.k4; have hsz5 := hide_ b5.size; clear b5)
      go_roundw
      case rel => exact ⟨2, 2, 3, by omega, by first | rfl | go_num, hide_ rfl, by first | rfl | go_num, hide_ rfl, hide_ (HA5.out.set (j := 1) _), hide_ (HF5.out.far _ hne), hide_ (HN5.out.far _ (by omega)), hide_ (KB5.out.setCell (p := ⟨g, 1, none⟩) hg _)⟩
      case measure => simp [intOf]
    · have hz : jz = 2 := HJZ.out
      have ha : az = 3 := HAZ.out
      subst hz
      subst ha
      clear HJZ HAZ hj
      have q : Hid (Calls Try.prog 94 #[v, .int .i64 3, .int .i64 1] wr fun e w' => ∃ er, e = .returned (.tuple #[.int .i64 (l.getD 3 0), .int .i64 er]) ∧ Below wr.heap.size wr w') := hide_ (by have := nget1 v l 3 wr (HB0.out.later KB.out) (by have := H8.out; omega) (by omega); simpa using this)
      obtain ⟨-, -, -, -, -, f0, f1, f2, f3, f4⟩ := (show AB wr g 105 [.int .i64 (be2 l 0), .int .i64 (l.getD 2 0), x2, x3, x4] from HA.out).k5
      go_wp2_with (go_at_call 94; refine q.out.mono ?_; rintro e w5 ⟨er, rfl, b5⟩; have HA5 : Hid (AB w5 g 105 [.int .i64 (be2 l 0), .int .i64 (l.getD 2 0), x2, x3, x4]) := hide_ (HA.out.later b5); have HF5 := hide_ (HF.out.later b5); have HN5 := hide_ (HN.out.later b5); have KB5 := hide_ (KB.out.trans (b5.mono KB.out.size)); obtain ⟨c0, c1, c2, c3, c4, d0, d1, d2, d3, d4⟩ := HA5.out.k5; obtain ⟨m0, m1, m2, m3, -⟩ := HN5.out.k4; have hsz5 := hide_ b5.size; clear b5)
      go_roundw
      case rel => exact ⟨3, 3, 4, by omega, by first | rfl | go_num, hide_ rfl, by first | rfl | go_num, hide_ rfl, hide_ (HA5.out.set (j := 4) _), hide_ (HF5.out.far _ hne), hide_ (HN5.out.far _ (by omega)), hide_ (KB5.out.setCell (p := ⟨g, 4, none⟩) hg _)⟩
      case measure => simp [intOf]
    · have hz : jz = 3 := HJZ.out
      have ha : az = 4 := HAZ.out
      subst hz
      subst ha
      clear HJZ HAZ hj
      have q : Hid (Calls Try.prog 94 #[v, .int .i64 4, .int .i64 4] wr fun e w' => ∃ er, e = .returned (.tuple #[.int .i64 (be4 l 4), .int .i64 er]) ∧ Below wr.heap.size wr w') := hide_ (by have := nget4 v l 4 wr (HB0.out.later KB.out) (by omega); simpa using this)
      obtain ⟨-, -, -, -, -, f0, f1, f2, f3, f4⟩ := (show AB wr g 105 [.int .i64 (be2 l 0), .int .i64 (l.getD 2 0), x2, x3, .int .i64 (l.getD 3 0)] from HA.out).k5
      go_wp2_with (go_at_call 94; refine q.out.mono ?_; rintro e w5 ⟨er, rfl, b5⟩; have HA5 : Hid (AB w5 g 105 [.int .i64 (be2 l 0), .int .i64 (l.getD 2 0), x2, x3, .int .i64 (l.getD 3 0)]) := hide_ (HA.out.later b5); have HF5 := hide_ (HF.out.later b5); have HN5 := hide_ (HN.out.later b5); have KB5 := hide_ (KB.out.trans (b5.mono KB.out.size)); obtain ⟨c0, c1, c2, c3, c4, d0, d1, d2, d3, d4⟩ := HA5.out.k5; obtain ⟨m0, m1, m2, m3, -⟩ := HN5.out.k4; have hsz5 := hide_ b5.size; clear b5)
      go_roundw
      case rel => exact ⟨4, 4, 8, by omega, by first | rfl | go_num, hide_ rfl, by first | rfl | go_num, hide_ rfl, hide_ (HA5.out.set (j := 2) _), hide_ (HF5.out.far _ hne), hide_ (HN5.out.far _ (by omega)), hide_ (KB5.out.setCell (p := ⟨g, 2, none⟩) hg _)⟩
      case measure => simp [intOf]
    · have hz : jz = 4 := HJZ.out
      subst hz
      clear HJZ hj
      go_wp2_with fail
      go_end0
      exact ⟨rfl, HA.out, KB.out⟩

end Go.Proofs.Ytkhpbkdblhcepaa

namespace Go.Proofs.Ytkhpbkdblhcepaa
open Go Go.RowKit
set_option linter.unusedVariables false
set_option linter.unusedSimpArgs false

set_option maxRecDepth 100000 in
set_option maxHeartbeats 8000000 in
theorem gd_short (ao : Option Addr) (cap : Nat) (l : List Int) (w : World) (hB : Bytes w (.slice ao l.length cap) l) (h : l.length < 8) :
    Calls Try.prog 31 #[.slice ao l.length cap] w fun e w' => e = .returned (.tuple #[.agg #[.int .i64 0, .int .i64 0, .int .i64 0, .slice none 0 0], .agg #[.bool true, .int .i64 1, .int .i64 6]]) ∧ Below w.heap.size w w' := by
  have R0 := hide_ ((AB.at0 w 55 [.int .i64 0, .int .i64 0, .int .i64 0, .slice none 0 0]).alloc (.cells #[.bool false, .int .i64 0, .int .i64 0] 34))
  have F0 := hide_ (AB.at1 w (.cells #[.int .i64 0, .int .i64 0, .int .i64 0, .slice none 0 0] 55) 34 [.bool false, .int .i64 0, .int .i64 0])
  have B0 := hide_ (below2 w (.cells #[.int .i64 0, .int .i64 0, .int .i64 0, .slice none 0 0] 55) (.cells #[.bool false, .int .i64 0, .int .i64 0] 34))
  have hm : l.length ≤ 9223372036854775807 := by obtain ⟨_, _, h1⟩ := Bytes.at hB; unfold maxLen at *; omega
  have h' : (l.length : Int) < 8 := by omega
  clear hB h
  go_enter Try.func31, Try.ntmps31
  go_wp2_with (go_at_call 66; refine (grefuse_any _ _ _).mono ?_; rintro e w9 ⟨rfl, b9⟩; have k9 := B0.out.trans (b9.mono B0.out.size); obtain ⟨r0, r1, r2, r3, r4, r5, r6, r7⟩ := (R0.out.later b9).k4; obtain ⟨s0, s1, s2, s3, s4, s5⟩ := ((F0.out.later b9).fark4 (f := w.heap.size) (by omega) (.int .i64 0) (.int .i64 0) (.int .i64 0) (.slice none 0 0)).three; obtain ⟨u0, u1, u2, u3, -⟩ := (((R0.out.later b9).setk4 (.int .i64 0) (.int .i64 0) (.int .i64 0) (.slice none 0 0)).farx3 (f := (w.heap.size + 1)) (by omega) (.bool true) (.int .i64 1) (.int .i64 6)).k4; obtain ⟨u4, u5, u6, -⟩ := (((F0.out.later b9).fark4 (f := w.heap.size) (by omega) (.int .i64 0) (.int .i64 0) (.int .i64 0) (.slice none 0 0)).set3 (.bool true) (.int .i64 1) (.int .i64 6)).three; have bb := below_set3 (g := (w.heap.size + 1)) (below_setk4 (g := w.heap.size) k9 (Nat.le_refl _) (.int .i64 0) (.int .i64 0) (.int .i64 0) (.slice none 0 0)) (by omega) (.bool true) (.int .i64 1) (.int .i64 6))
  exact bodyPost_ret (v := .tuple #[.agg #[.int .i64 0, .int .i64 0, .int .i64 0, .slice none 0 0], .agg #[.bool true, .int .i64 1, .int .i64 6]]) (by simp [results, Try.results31, go_sem, u0, u1, u2, u3, u4, u5, u6]) rfl ⟨rfl, bb⟩

set_option maxRecDepth 100000 in
set_option maxHeartbeats 8000000 in
theorem gd_nz (ao : Option Addr) (cap : Nat) (l : List Int) (w : World) (hB : Bytes w (.slice ao l.length cap) l) (h : 8 ≤ l.length) (hz : ¬ l.getD 3 0 = 0) :
    Calls Try.prog 31 #[.slice ao l.length cap] w fun e w' => e = .returned (.tuple #[.agg #[.int .i64 0, .int .i64 0, .int .i64 0, .slice none 0 0], .agg #[.bool true, .int .i64 1, .int .i64 6]]) ∧ Below w.heap.size w w' := by
  have R0 := hide_ ((AB.at0 w 55 [.int .i64 0, .int .i64 0, .int .i64 0, .slice none 0 0]).alloc (.cells #[.bool false, .int .i64 0, .int .i64 0] 34))
  have F0 := hide_ (AB.at1 w (.cells #[.int .i64 0, .int .i64 0, .int .i64 0, .slice none 0 0] 55) 34 [.bool false, .int .i64 0, .int .i64 0])
  have B0 := hide_ (below2 w (.cells #[.int .i64 0, .int .i64 0, .int .i64 0, .slice none 0 0] 55) (.cells #[.bool false, .int .i64 0, .int .i64 0] 34))
  have hm : l.length ≤ 9223372036854775807 := by obtain ⟨_, _, h1⟩ := Bytes.at hB; unfold maxLen at *; omega
  have h' : ¬ (l.length : Int) < 8 := by omega
  have qread : Hid (Calls Try.prog 67 #[.slice ao l.length cap, .slice (some ⟨w.heap.size + 1 + 1 + 1, 0, none⟩) 4 4] ((((w.alloc (.cells #[.int .i64 0, .int .i64 0, .int .i64 0, .slice none 0 0] 55)).alloc (.cells #[.bool false, .int .i64 0, .int .i64 0] 34)).alloc (.cells #[.int .i64 0, .int .i64 0, .int .i64 0, .slice none 0 0, .int .i64 0] 105)).alloc (.cells #[.pointer (some ⟨w.heap.size + 1 + 1, 0, none⟩), .pointer (some ⟨w.heap.size + 1 + 1, 1, none⟩), .pointer (some ⟨w.heap.size + 1 + 1, 4, none⟩), .pointer (some ⟨w.heap.size + 1 + 1, 2, none⟩)] 107)) fun e w' => e = .returned (.tuple #[]) ∧ AB w' (w.heap.size + 1 + 1) 105 [.int .i64 (be2 l 0), .int .i64 (l.getD 2 0), .int .i64 (be4 l 4), .slice none 0 0, .int .i64 (l.getD 3 0)] ∧ Below ((w.alloc (.cells #[.int .i64 0, .int .i64 0, .int .i64 0, .slice none 0 0] 55)).alloc (.cells #[.bool false, .int .i64 0, .int .i64 0] 34)).heap.size ((w.alloc (.cells #[.int .i64 0, .int .i64 0, .int .i64 0, .slice none 0 0] 55)).alloc (.cells #[.bool false, .int .i64 0, .int .i64 0] 34)) w') := hide_ (gread_any (.slice ao l.length cap) l (w.heap.size + 1 + 1) (w.heap.size + 1 + 1 + 1) _ _ _ _ _ ((w.alloc (.cells #[.int .i64 0, .int .i64 0, .int .i64 0, .slice none 0 0] 55)).alloc (.cells #[.bool false, .int .i64 0, .int .i64 0] 34)) ((((w.alloc (.cells #[.int .i64 0, .int .i64 0, .int .i64 0, .slice none 0 0] 55)).alloc (.cells #[.bool false, .int .i64 0, .int .i64 0] 34)).alloc (.cells #[.int .i64 0, .int .i64 0, .int .i64 0, .slice none 0 0, .int .i64 0] 105)).alloc (.cells #[.pointer (some ⟨w.heap.size + 1 + 1, 0, none⟩), .pointer (some ⟨w.heap.size + 1 + 1, 1, none⟩), .pointer (some ⟨w.heap.size + 1 + 1, 4, none⟩), .pointer (some ⟨w.heap.size + 1 + 1, 2, none⟩)] 107)) (hB.later B0.out) h (((below1 ((w.alloc (.cells #[.int .i64 0, .int .i64 0, .int .i64 0, .slice none 0 0] 55)).alloc (.cells #[.bool false, .int .i64 0, .int .i64 0] 34)) (.cells #[.int .i64 0, .int .i64 0, .int .i64 0, .slice none 0 0, .int .i64 0] 105)).alloc (by simp) _)) (by simp) (by omega) (by have := (AB.at0 ((w.alloc (.cells #[.int .i64 0, .int .i64 0, .int .i64 0, .slice none 0 0] 55)).alloc (.cells #[.bool false, .int .i64 0, .int .i64 0] 34)) 105 [.int .i64 0, .int .i64 0, .int .i64 0, .slice none 0 0, .int .i64 0]).alloc (.cells #[.pointer (some ⟨w.heap.size + 1 + 1, 0, none⟩), .pointer (some ⟨w.heap.size + 1 + 1, 1, none⟩), .pointer (some ⟨w.heap.size + 1 + 1, 4, none⟩), .pointer (some ⟨w.heap.size + 1 + 1, 2, none⟩)] 107); simpa using this) (by have := AB.at0 (((w.alloc (.cells #[.int .i64 0, .int .i64 0, .int .i64 0, .slice none 0 0] 55)).alloc (.cells #[.bool false, .int .i64 0, .int .i64 0] 34)).alloc (.cells #[.int .i64 0, .int .i64 0, .int .i64 0, .slice none 0 0, .int .i64 0] 105)) 107 [.pointer (some ⟨w.heap.size + 1 + 1, 0, none⟩), .pointer (some ⟨w.heap.size + 1 + 1, 1, none⟩), .pointer (some ⟨w.heap.size + 1 + 1, 4, none⟩), .pointer (some ⟨w.heap.size + 1 + 1, 2, none⟩)]; simpa using this))
  clear hB h
  generalize be2 l 0 = y0 at *
  generalize l.getD 2 0 = y1 at *
  generalize be4 l 4 = y2 at *
  generalize l.getD 3 0 = y3 at *
  go_enter Try.func31, Try.ntmps31
  go_wp2_with (first | (go_at_call 67; refine qread.out.mono ?_; rintro e w1 ⟨rfl, C1, b1⟩; have k1 := hide_ (B0.out.trans (b1.mono (by simp; omega))); have R1 := hide_ (R0.out.later b1); have F1 := hide_ (F0.out.later b1); have C1 := hide_ C1; obtain ⟨c0, c1, c2, c3, c4, -⟩ := C1.out.k5; clear b1) | (go_at_call 66; refine (grefuse_any _ _ _).mono ?_; rintro e w9 ⟨rfl, b9⟩; have k9 := k1.out.trans (b9.mono k1.out.size); obtain ⟨r0, r1, r2, r3, r4, r5, r6, r7⟩ := (R1.out.later b9).k4; obtain ⟨s0, s1, s2, s3, s4, s5⟩ := ((F1.out.later b9).fark4 (f := w.heap.size) (by omega) (.int .i64 0) (.int .i64 0) (.int .i64 0) (.slice none 0 0)).three; obtain ⟨u0, u1, u2, u3, -⟩ := (((R1.out.later b9).setk4 (.int .i64 0) (.int .i64 0) (.int .i64 0) (.slice none 0 0)).farx3 (f := (w.heap.size + 1)) (by omega) (.bool true) (.int .i64 1) (.int .i64 6)).k4; obtain ⟨u4, u5, u6, -⟩ := (((F1.out.later b9).fark4 (f := w.heap.size) (by omega) (.int .i64 0) (.int .i64 0) (.int .i64 0) (.slice none 0 0)).set3 (.bool true) (.int .i64 1) (.int .i64 6)).three; have bb := below_set3 (g := (w.heap.size + 1)) (below_setk4 (g := w.heap.size) k9 (Nat.le_refl _) (.int .i64 0) (.int .i64 0) (.int .i64 0) (.slice none 0 0)) (by omega) (.bool true) (.int .i64 1) (.int .i64 6)))
  exact bodyPost_ret (v := .tuple #[.agg #[.int .i64 0, .int .i64 0, .int .i64 0, .slice none 0 0], .agg #[.bool true, .int .i64 1, .int .i64 6]]) (by simp [results, Try.results31, go_sem, u0, u1, u2, u3, u4, u5, u6]) rfl ⟨rfl, bb⟩

set_option maxRecDepth 100000 in
set_option maxHeartbeats 8000000 in
theorem gd_chk (ao : Option Addr) (cap : Nat) (l : List Int) (x : Int) (w : World) (hB : Bytes w (.slice ao l.length cap) l) (h : 8 ≤ l.length) (hz : l.getD 3 0 = 0) (qc : ∀ w, Calls Try.prog 68 #[.agg #[.int .i64 (be2 l 0), .int .i64 (l.getD 2 0), .int .i64 (be4 l 4), .slice none 0 0]] w fun e w' => e = .returned (.agg #[.bool true, .int .i64 6, .int .i64 x]) ∧ Below w.heap.size w w') :
    Calls Try.prog 31 #[.slice ao l.length cap] w fun e w' => e = .returned (.tuple #[.agg #[.int .i64 0, .int .i64 0, .int .i64 0, .slice none 0 0], .agg #[.bool true, .int .i64 6, .int .i64 x]]) ∧ Below w.heap.size w w' := by
  have R0 := hide_ ((AB.at0 w 55 [.int .i64 0, .int .i64 0, .int .i64 0, .slice none 0 0]).alloc (.cells #[.bool false, .int .i64 0, .int .i64 0] 34))
  have F0 := hide_ (AB.at1 w (.cells #[.int .i64 0, .int .i64 0, .int .i64 0, .slice none 0 0] 55) 34 [.bool false, .int .i64 0, .int .i64 0])
  have B0 := hide_ (below2 w (.cells #[.int .i64 0, .int .i64 0, .int .i64 0, .slice none 0 0] 55) (.cells #[.bool false, .int .i64 0, .int .i64 0] 34))
  have hm : l.length ≤ 9223372036854775807 := by obtain ⟨_, _, h1⟩ := Bytes.at hB; unfold maxLen at *; omega
  have h' : ¬ (l.length : Int) < 8 := by omega
  have qread : Hid (Calls Try.prog 67 #[.slice ao l.length cap, .slice (some ⟨w.heap.size + 1 + 1 + 1, 0, none⟩) 4 4] ((((w.alloc (.cells #[.int .i64 0, .int .i64 0, .int .i64 0, .slice none 0 0] 55)).alloc (.cells #[.bool false, .int .i64 0, .int .i64 0] 34)).alloc (.cells #[.int .i64 0, .int .i64 0, .int .i64 0, .slice none 0 0, .int .i64 0] 105)).alloc (.cells #[.pointer (some ⟨w.heap.size + 1 + 1, 0, none⟩), .pointer (some ⟨w.heap.size + 1 + 1, 1, none⟩), .pointer (some ⟨w.heap.size + 1 + 1, 4, none⟩), .pointer (some ⟨w.heap.size + 1 + 1, 2, none⟩)] 107)) fun e w' => e = .returned (.tuple #[]) ∧ AB w' (w.heap.size + 1 + 1) 105 [.int .i64 (be2 l 0), .int .i64 (l.getD 2 0), .int .i64 (be4 l 4), .slice none 0 0, .int .i64 (l.getD 3 0)] ∧ Below ((w.alloc (.cells #[.int .i64 0, .int .i64 0, .int .i64 0, .slice none 0 0] 55)).alloc (.cells #[.bool false, .int .i64 0, .int .i64 0] 34)).heap.size ((w.alloc (.cells #[.int .i64 0, .int .i64 0, .int .i64 0, .slice none 0 0] 55)).alloc (.cells #[.bool false, .int .i64 0, .int .i64 0] 34)) w') := hide_ (gread_any (.slice ao l.length cap) l (w.heap.size + 1 + 1) (w.heap.size + 1 + 1 + 1) _ _ _ _ _ ((w.alloc (.cells #[.int .i64 0, .int .i64 0, .int .i64 0, .slice none 0 0] 55)).alloc (.cells #[.bool false, .int .i64 0, .int .i64 0] 34)) ((((w.alloc (.cells #[.int .i64 0, .int .i64 0, .int .i64 0, .slice none 0 0] 55)).alloc (.cells #[.bool false, .int .i64 0, .int .i64 0] 34)).alloc (.cells #[.int .i64 0, .int .i64 0, .int .i64 0, .slice none 0 0, .int .i64 0] 105)).alloc (.cells #[.pointer (some ⟨w.heap.size + 1 + 1, 0, none⟩), .pointer (some ⟨w.heap.size + 1 + 1, 1, none⟩), .pointer (some ⟨w.heap.size + 1 + 1, 4, none⟩), .pointer (some ⟨w.heap.size + 1 + 1, 2, none⟩)] 107)) (hB.later B0.out) h (((below1 ((w.alloc (.cells #[.int .i64 0, .int .i64 0, .int .i64 0, .slice none 0 0] 55)).alloc (.cells #[.bool false, .int .i64 0, .int .i64 0] 34)) (.cells #[.int .i64 0, .int .i64 0, .int .i64 0, .slice none 0 0, .int .i64 0] 105)).alloc (by simp) _)) (by simp) (by omega) (by have := (AB.at0 ((w.alloc (.cells #[.int .i64 0, .int .i64 0, .int .i64 0, .slice none 0 0] 55)).alloc (.cells #[.bool false, .int .i64 0, .int .i64 0] 34)) 105 [.int .i64 0, .int .i64 0, .int .i64 0, .slice none 0 0, .int .i64 0]).alloc (.cells #[.pointer (some ⟨w.heap.size + 1 + 1, 0, none⟩), .pointer (some ⟨w.heap.size + 1 + 1, 1, none⟩), .pointer (some ⟨w.heap.size + 1 + 1, 4, none⟩), .pointer (some ⟨w.heap.size + 1 + 1, 2, none⟩)] 107); simpa using this) (by have := AB.at0 (((w.alloc (.cells #[.int .i64 0, .int .i64 0, .int .i64 0, .slice none 0 0] 55)).alloc (.cells #[.bool false, .int .i64 0, .int .i64 0] 34)).alloc (.cells #[.int .i64 0, .int .i64 0, .int .i64 0, .slice none 0 0, .int .i64 0] 105)) 107 [.pointer (some ⟨w.heap.size + 1 + 1, 0, none⟩), .pointer (some ⟨w.heap.size + 1 + 1, 1, none⟩), .pointer (some ⟨w.heap.size + 1 + 1, 4, none⟩), .pointer (some ⟨w.heap.size + 1 + 1, 2, none⟩)]; simpa using this))
  have qc := hide_ qc
  rw [hz] at qread
  clear hB h hz
  generalize be2 l 0 = y0 at *
  generalize l.getD 2 0 = y1 at *
  generalize be4 l 4 = y2 at *
  go_enter Try.func31, Try.ntmps31
  go_upto_region 9 with (first | (go_at_call 67; refine qread.out.mono ?_; rintro e w1 ⟨rfl, C1, b1⟩; have k1 := hide_ (B0.out.trans (b1.mono (by simp; omega))); have R1 := hide_ (R0.out.later b1); have F1 := hide_ (F0.out.later b1); have C1 := hide_ C1; obtain ⟨c0, c1, c2, c3, c4, -⟩ := C1.out.k5; clear b1) | (go_at_call 68; refine (qc.out _).mono ?_; rintro e w2 ⟨rfl, b2⟩; have k2 := hide_ (k1.out.trans (b2.mono k1.out.size)); have R2 := hide_ (R1.out.later b2); have F2 := hide_ (F1.out.later b2); have C2 := hide_ (C1.out.later b2); obtain ⟨d0, d1, d2, d3, d4, -⟩ := C2.out.k5; clear b2))
  have k4x : Below w.heap.size w (w2.alloc (.cells #[.bool true, .int .i64 6, .int .i64 x] 34)) := k2.out.trans ((below1 w2 _).mono k2.out.size)
  have RX := hide_ (R2.out.alloc (.cells #[.bool true, .int .i64 6, .int .i64 x] 34))
  have FX := hide_ (F2.out.alloc (.cells #[.bool true, .int .i64 6, .int .i64 x] 34))
  obtain ⟨f0, f1, f2, -⟩ := (AB.at0 w2 34 [.bool true, .int .i64 6, .int .i64 x]).three
  have hgw : w.heap.size + 2 ≤ w2.heap.size := by have := F2.out.lt; omega
  generalize (w2.alloc (.cells #[.bool true, .int .i64 6, .int .i64 x] 34)) = X at *
  have RD : AB X.drew w.heap.size 55 [.int .i64 0, .int .i64 0, .int .i64 0, .slice none 0 0] := RX.out
  have FD : AB X.drew (w.heap.size + 1) 34 [.bool false, .int .i64 0, .int .i64 0] := FX.out
  obtain ⟨r0, r1, r2, r3, r4, r5, r6, r7⟩ := RD.k4
  obtain ⟨s0, s1, s2, s3, s4, s5⟩ := (FD.fark4 (f := w.heap.size) (by omega) (.int .i64 0) (.int .i64 0) (.int .i64 0) (.slice none 0 0)).three
  obtain ⟨u0, u1, u2, u3, -⟩ := ((RD.setk4 (.int .i64 0) (.int .i64 0) (.int .i64 0) (.slice none 0 0)).farx3 (f := (w.heap.size + 1)) (by omega) (.bool true) (.int .i64 6) (.int .i64 x)).k4
  obtain ⟨u4, u5, u6, -⟩ := ((FD.fark4 (f := w.heap.size) (by omega) (.int .i64 0) (.int .i64 0) (.int .i64 0) (.slice none 0 0)).set3 (.bool true) (.int .i64 6) (.int .i64 x)).three
  have bb := below_set3 (g := (w.heap.size + 1)) (below_setk4 (g := w.heap.size) k4x.drew (Nat.le_refl _) (.int .i64 0) (.int .i64 0) (.int .i64 0) (.slice none 0 0)) (by omega) (.bool true) (.int .i64 6) (.int .i64 x)
  clear RD FD bb
  refine wp_region_held_drew (S := (fun w' => w'.cell? ⟨w2.heap.size, 0, none⟩ = some (.bool true) ∧ w'.cell? ⟨w2.heap.size, 1, none⟩ = some (.int .i64 6) ∧ w'.cell? ⟨w2.heap.size, 2, none⟩ = some (.int .i64 x) ∧ Below w.heap.size w w')) (by kernel_rfl) (⟨f0, f1, f2, k4x.drew⟩) (fun hHeld => ?_)
  generalize X.drew = D at *
  refine takeR (i := 0) (v := ?_) rfl (by kernel_rfl) (by kernel_rfl) (by kernel_rfl) (some 33) rfl (Or.inl ⟨by rfl, ?_⟩) (fun _ _ _ h => h) (by assumption) ?_
  rotate_left
  · intro w hSw; (try dsimp only at hSw); go_simp; (try with_reducible rfl)
  simp only [Act.put, List.setIfInBounds_toArray, List.set_cons_zero, List.set_cons_succ]
  refine takeR (i := 1) (v := ?_) rfl (by kernel_rfl) (by kernel_rfl) (by kernel_rfl) (some 34) rfl (Or.inl ⟨by rfl, ?_⟩) (fun _ _ _ h => h) (by assumption) ?_
  rotate_left
  · intro w hSw; (try dsimp only at hSw); go_simp; (try with_reducible rfl)
  simp only [Act.put, List.setIfInBounds_toArray, List.set_cons_zero, List.set_cons_succ]
  refine wpAnyH_ready (rs := [2]) (by kernel_rfl) (by simp) ?_
  refine AllReadyH.cons rfl (fun K hK => ?_) (AllReadyH.nil)
  go_simp
  refine hK.out _ _ (⟨(cell_fillK (by dsimp only; omega) _ _ _ _).trans hHeld.1, (cell_fillK (by dsimp only; omega) _ _ _ _).trans hHeld.2.1, (cell_fillK (by dsimp only; omega) _ _ _ _).trans hHeld.2.2.1, below_setk4 (g := w.heap.size) hHeld.2.2.2 (Nat.le_refl _) _ _ _ _⟩) (fun hHeld => ?_)
  clear hK K
  try simp only [Act.put, List.setIfInBounds_toArray, List.set_cons_zero, List.set_cons_succ]
  refine wpAnyH_ready (rs := [3]) (by kernel_rfl) (by simp) ?_
  refine AllReadyH.cons rfl (fun K hK => ?_) (AllReadyH.nil)
  go_simp
  refine hK.out _ _ (kW3_3 hHeld (by omega) (by dsimp only; omega) (by dsimp only; omega) (by dsimp only; omega)) (fun hHeld => ?_)
  clear hK K
  try simp only [Act.put, List.setIfInBounds_toArray, List.set_cons_zero, List.set_cons_succ]
  refine wpAnyH_done (by kernel_rfl) ?_ _
  go_wp2_with fail
  exact bodyPost_ret (v := .tuple #[.agg #[.int .i64 0, .int .i64 0, .int .i64 0, .slice none 0 0], .agg #[.bool true, .int .i64 6, .int .i64 x]]) (by simp [results, Try.results31, go_sem, u0, u1, u2, u3, u4, u5, u6]) rfl ⟨rfl, hHeld.2.2.2⟩

end Go.Proofs.Ytkhpbkdblhcepaa

namespace Go.Proofs.Ytkhpbkdblhcepaa
open Go Go.RowKit
set_option linter.unusedVariables false
set_option linter.unusedSimpArgs false

set_option maxRecDepth 100000 in
set_option maxHeartbeats 8000000 in
theorem bd_okS (v : Value) (l0 : List Int) (Ls : List BK) (w : World) (hB : Bytes w v l0) (h6 : l0.length ≤ 60000) (hP : BOk Ans l0 Ls) (hLL : Ls.length ≤ 100) :
    Calls Try.prog 69 #[v] w fun e w' => (∃ r, e = .returned (.tuple #[r, .agg #[.bool false, .int .i64 0, .int .i64 0]]) ∧ ∃ P : List PB, P.map (·.1) = Ls ∧ BRow w' (w.heap.size + 1) r P) ∧ Below w.heap.size w w' := by
  have F0 := hide_ (AB.at0 w 34 [.bool false, .int .i64 0, .int .i64 0])
  have B0 := hide_ (below1 w (.cells #[.bool false, .int .i64 0, .int .i64 0] 34))
  obtain ⟨ao0, cap0, rfl, hbr⟩ := hB
  have hB : Bytes w (.slice ao0 l0.length cap0) l0 := ⟨ao0, cap0, rfl, hbr⟩
  have HB0 := hide_ (hB.later B0.out)
  have g6 : ¬ (60000 : Int) < (l0.length : Int) := by omega
  clear hB hbr h6
  obtain ⟨i0, hi0, hz0, hz1, hz2⟩ := info_parts infoBu
  have HI : Hid (Try.prog.info? 98 = some i0 ∧ i0.zero = some (.agg #[.int .i64 0, .int .i64 0, .int .i64 0, .slice none 0 0]) ∧ i0.size = 4 ∧ i0.bytes = 48) := ⟨hi0, hz0, hz1, hz2⟩
  clear hi0 hz0 hz1 hz2
  have HP := hide_ hP
  clear hP
  have HLL := hide_ hLL
  clear hLL
  go_enter Try.func69, Try.ntmps69
  go_wp2
  go_loopw [0, 4] (fun b u wr => ∃ (ao : Option Addr) (n cap : Nat) (ua : Option Addr) (uc m : Nat) (l : List Int) (pre : List BK) (P : List PB) (R : List BK), b = .slice ao n cap ∧ u = .slice ua m uc ∧ n = l.length ∧ m ≤ 101 ∧ Hid (m = P.length) ∧ Hid (Bytes (w.alloc (.cells #[.bool false, .int .i64 0, .int .i64 0] 34)) (.slice ao n cap) l) ∧ Hid (BRow wr (w.alloc (.cells #[.bool false, .int .i64 0, .int .i64 0] 34)).heap.size (.slice ua m uc) P) ∧ Hid (BOk Ans l R ∧ pre ++ R = Ls) ∧ Hid (P.map (·.1) = pre.take 101) ∧ Hid (Below (w.alloc (.cells #[.bool false, .int .i64 0, .int .i64 0] 34)).heap.size (w.alloc (.cells #[.bool false, .int .i64 0, .int .i64 0] 34)) wr)) (fun b _ _ => slen2 b)
  case atStart => exact ⟨ao0, l0.length, cap0, none, 0, 0, l0, [], [], Ls, rfl, rfl, rfl, by simp, hide_ rfl, HB0, hide_ (BRow.nil _ _), hide_ ⟨HP.out, rfl⟩, hide_ rfl, hide_ (Below.refl _ _)⟩
  case round =>
    obtain ⟨ao, n, cap, ua, uc, m, l, pre, P, R, rfl, rfl, rfl, hKl, HM, HBy, HOw, HPP, HK, KB⟩ := hrel
    obtain ⟨hpo, hpre⟩ := HPP.out
    clear HPP
    cases hpo with
    | nil =>
      have hpr : pre = Ls := by simpa using hpre
      obtain ⟨s0, s1, s2, s3, s4, s5⟩ := (F0.out.later KB.out).three
      obtain ⟨u0, u1, u2, -⟩ := ((F0.out.later KB.out).set3 (.bool false) (.int .i64 0) (.int .i64 0)).three
      have bb := below_set3 (g := w.heap.size) (B0.out.trans (KB.out.mono B0.out.size)) (Nat.le_refl _) (.bool false) (.int .i64 0) (.int .i64 0)
      have hne : w.heap.size < (w.alloc (.cells #[.bool false, .int .i64 0, .int .i64 0] 34)).heap.size := by simp
      have HX := hide_ (fun x y z => HOw.out.far3 hne x y z)
      have hKL : P.map (·.1) = Ls := by rw [HK.out, hpr, List.take_of_length_le (by have := HLL.out; omega)]
      have g100 : ¬ (100 : Int) < (m : Int) := by have h1 := HLL.out; rw [← hKL, List.length_map, ← HM.out] at h1; omega
      have HKL := hide_ hKL
      clear hpre hpr hKL
      go_wp2
      refine bodyPost_ret (v := .tuple #[.slice ua m uc, .agg #[.bool false, .int .i64 0, .int .i64 0]]) (by simp [results, Try.results69, go_sem, u0, u1, u2]) rfl ⟨⟨_, rfl, ?_⟩, bb⟩
      exact ⟨P, HKL.out, by have := HX.out (.bool false) (.int .i64 0) (.int .i64 0); rw [World.size_alloc] at this; exact this⟩
    | @cons _ nn LL RR hd hrest =>
      have hle : nn ≤ l.length := by have := hd.1; have h2 := hd.2.1; unfold cutOk at this; omega
      have h0 : 16 ≤ nn := by have := hd.1; have h2 := hd.2.1; unfold cutOk at this; omega
      have qd := bread_step ao cap l nn LL wr (HBy.out.later KB.out) hd
      obtain ⟨rn, hrn⟩ : ∃ rn, LL.length = rn := ⟨_, rfl⟩
      have HRN := hide_ hrn
      have HO1 : Hid ((bkOf l nn LL).2.2.2 = LL) := hide_ rfl
      obtain ⟨ao2, -, s2, b2⟩ := bytes_slice HBy.out nn hle
      have HB2 := hide_ b2
      have hrest := hide_ hrest
      have hpre := hide_ hpre
      obtain ⟨O, hO⟩ : ∃ O, bkOf l nn LL = O := ⟨_, rfl⟩
      rw [hO] at qd HO1
      have hpre2 : Hid (pre ++ O :: RR = Ls) := hide_ (by rw [← hO]; exact hpre.out)
      clear hpre
      obtain ⟨v1, v2, v3, LO⟩ := O
      have HO1 : LO = LL := HO1.out
      subst HO1
      have qd := hide_ qd
      have gpos : (0 : Int) < (l.length : Int) := by omega
      clear b2 hd hrn hO
      by_cases hk : m ≤ 100
      · have g100 : (m : Int) ≤ 100 := by omega
        go_wp2_with (first | (go_at_call 108; refine (qd.out).mono ?_; rintro e w3 ⟨⟨r, rfl, ho⟩, b3⟩; obtain ⟨ru, rc, er⟩ := ownr_form ho; rw [HRN.out] at er; subst er; have HA3 := hide_ (ownr_base ho KB.out.size); clear ho; have j3 : Below wr.heap.size wr ((w3.alloc (.cells #[.int .i64 v1, .int .i64 v2, .int .i64 v3, .slice ru rn rc] 98)).alloc (.cells #[.bool false, .int .i64 0, .int .i64 0] 34)) := b3.trans ((below2 w3 _ _).mono b3.size); have K3 := KB.out.trans (j3.mono KB.out.size); obtain ⟨o0, o1, o2, o3, -⟩ := ((AB.at0 w3 98 [.int .i64 v1, .int .i64 v2, .int .i64 v3, .slice ru rn rc]).alloc (.cells #[.bool false, .int .i64 0, .int .i64 0] 34)).k4; obtain ⟨f0, f1, f2, -⟩ := (AB.at1 w3 (.cells #[.int .i64 v1, .int .i64 v2, .int .i64 v3, .slice ru rn rc] 98) 34 [.bool false, .int .i64 0, .int .i64 0]).three) | (at_builtin; refine wpList_append_newG (.tmp 27) (.tmp 29) 53 rfl 98 i0 (.agg #[.int .i64 0, .int .i64 0, .int .i64 0, .slice none 0 0]) 4 48 Try.underlying53 HI.out.1 HI.out.2.1 HI.out.2.2.1 HI.out.2.2.2 rfl (by decide) (w.alloc (.cells #[.bool false, .int .i64 0, .int .i64 0] 34)).heap.size (.slice ua m uc) m (bds P) (by simp [Act.eval, Act.put]) ((w3.alloc (.cells #[.int .i64 v1, .int .i64 v2, .int .i64 v3, .slice ru rn rc] 98)).alloc (.cells #[.bool false, .int .i64 0, .int .i64 0] 34)) (by have := (HOw.out.later j3).1; rw [← HM.out] at this; exact this) [.int .i64 v1, .int .i64 v2, .int .i64 v3, .slice ru rn rc] _ rfl 1 (by simp) (by simp [Value.oneCell']) (by simp [Act.eval, Act.put]) (by simp [Region.wanted]) (by unfold maxLen; omega) (by omega) K3.size ?_; intro v4 w4 own4 b4 g4))
        have R4 : BRow w4 (w.alloc (.cells #[.bool false, .int .i64 0, .int .i64 0] 34)).heap.size v4 (P ++ [((v1, v2, v3, LO), .slice ru rn rc)]) := BRow.push (HOw.out.later j3) (by have := ownr_later HA3.out (below2 w3 (.cells #[.int .i64 v1, .int .i64 v2, .int .i64 v3, .slice ru rn rc] 98) (.cells #[.bool false, .int .i64 0, .int .i64 0] 34)); rw [← HRN.out] at this ⊢; exact this) (by rw [← HM.out]; exact own4) g4
        have hl4 : (P ++ [((v1, v2, v3, LO), Value.slice ru rn rc)]).length = m + 1 := by rw [List.length_append, ← HM.out]; rfl
        obtain ⟨ua4, uc4, e4⟩ := ownr_form R4.1
        rw [hl4] at e4
        subst e4
        have R4 := hide_ R4
        have HM4 := hide_ hl4.symm
        have HK2 := hide_ (show (P ++ [((v1, v2, v3, LO), Value.slice ru rn rc)]).map (·.1) = (pre ++ [(v1, v2, v3, LO)]).take 101 by rw [List.map_append]; exact take_snocK HK.out (by rw [List.length_map, ← HM.out]; exact hk))
        have b4 := hide_ b4
        clear hl4 own4 g4
        go_wp2
        go_roundw
        case rel => exact ⟨ao2, l.length - nn, cap - nn, ua4, uc4, m + 1, l.drop nn, pre ++ [(v1, v2, v3, LO)], P ++ [((v1, v2, v3, LO), .slice ru rn rc)], RR, rfl, rfl, by rw [List.length_drop], by omega, HM4, HB2, R4, hide_ ⟨hrest.out, by rw [← hpre2.out]; simp⟩, HK2, hide_ (K3.trans b4.out)⟩
        case measure => simp [slen2]; omega
      · have g100 : ¬ ((m : Int) ≤ 100) := by omega
        have HK2 := hide_ (take_skipK (o := (v1, v2, v3, LO)) HK.out (by rw [List.length_map, ← HM.out]; exact hk))
        go_wp2_with (go_at_call 108; refine (qd.out).mono ?_; rintro e w3 ⟨⟨r, rfl, ho⟩, b3⟩; obtain ⟨ru, rc, er⟩ := ownr_form ho; rw [HRN.out] at er; subst er; have HA3 := hide_ (ownr_base ho KB.out.size); clear ho; have j3 : Below wr.heap.size wr ((w3.alloc (.cells #[.int .i64 v1, .int .i64 v2, .int .i64 v3, .slice ru rn rc] 98)).alloc (.cells #[.bool false, .int .i64 0, .int .i64 0] 34)) := b3.trans ((below2 w3 _ _).mono b3.size); have K3 := KB.out.trans (j3.mono KB.out.size); obtain ⟨o0, o1, o2, o3, -⟩ := ((AB.at0 w3 98 [.int .i64 v1, .int .i64 v2, .int .i64 v3, .slice ru rn rc]).alloc (.cells #[.bool false, .int .i64 0, .int .i64 0] 34)).k4; obtain ⟨f0, f1, f2, -⟩ := (AB.at1 w3 (.cells #[.int .i64 v1, .int .i64 v2, .int .i64 v3, .slice ru rn rc] 98) 34 [.bool false, .int .i64 0, .int .i64 0]).three)
        go_roundw
        case rel => exact ⟨ao2, l.length - nn, cap - nn, ua, uc, m, l.drop nn, pre ++ [(v1, v2, v3, LO)], P, RR, rfl, rfl, by rw [List.length_drop], by omega, HM, HB2, hide_ (HOw.out.later j3), hide_ ⟨hrest.out, by rw [← hpre2.out]; simp⟩, HK2, hide_ K3⟩
        case measure => simp [slen2]; omega

theorem own_setU {w : World} {base g o n size : Nat} {e : TypeId} {v : Value} {xs : List Value} (h : w.ownsRow base e size v n xs) (hg : g < base) (x : Value) : (w.setCell ⟨g, o, none⟩ x).ownsRow base e size v n xs := by
  refine ⟨h.1, ?_⟩
  rcases h.2 with k | ⟨g', cap, cur, rfl, hb, hk, r⟩
  · exact .inl k
  · exact .inr ⟨g', cap, cur, rfl, hb, (Below.heap_setCell _ _ _ _ (fun e => by have : g' = g := e; omega)).trans hk, r⟩
theorem BRow.set {w : World} {base g o : Nat} {u : Value} {P : List PB} (h : BRow w base u P) (hg : g < base) (x : Value) : BRow (w.setCell ⟨g, o, none⟩ x) base u P := ⟨own_setU h.1 hg x, fun p hp => own_setU (h.2 p hp) hg x⟩
set_option maxRecDepth 100000 in
set_option maxHeartbeats 8000000 in
theorem gd_bad (ao : Option Addr) (cap : Nat) (l : List Int) (c d : Int) (w : World) (hB : Bytes w (.slice ao l.length cap) l) (h : 8 ≤ l.length) (hz : l.getD 3 0 = 0) (qc : ∀ w, Calls Try.prog 68 #[.agg #[.int .i64 (be2 l 0), .int .i64 (l.getD 2 0), .int .i64 (be4 l 4), .slice none 0 0]] w fun e w' => e = .returned (.agg #[.bool false, .int .i64 0, .int .i64 0]) ∧ Below w.heap.size w w') (hP : ∀ (v : Value) (W : World), Bytes W v (l.drop 8) → Calls Try.prog 69 #[v] W fun e w' => e = .returned (.tuple #[.slice none 0 0, .agg #[.bool true, .int .i64 c, .int .i64 d]]) ∧ Below W.heap.size W w') :
    Calls Try.prog 31 #[.slice ao l.length cap] w fun e w' => e = .returned (.tuple #[.agg #[.int .i64 0, .int .i64 0, .int .i64 0, .slice none 0 0], .agg #[.bool true, .int .i64 c, .int .i64 d]]) ∧ Below w.heap.size w w' := by
  have R0 := hide_ ((AB.at0 w 55 [.int .i64 0, .int .i64 0, .int .i64 0, .slice none 0 0]).alloc (.cells #[.bool false, .int .i64 0, .int .i64 0] 34))
  have F0 := hide_ (AB.at1 w (.cells #[.int .i64 0, .int .i64 0, .int .i64 0, .slice none 0 0] 55) 34 [.bool false, .int .i64 0, .int .i64 0])
  have B0 := hide_ (below2 w (.cells #[.int .i64 0, .int .i64 0, .int .i64 0, .slice none 0 0] 55) (.cells #[.bool false, .int .i64 0, .int .i64 0] 34))
  have hm : l.length ≤ 9223372036854775807 := by obtain ⟨_, _, h1⟩ := Bytes.at hB; unfold maxLen at *; omega
  have h' : ¬ (l.length : Int) < 8 := by omega
  have qread : Hid (Calls Try.prog 67 #[.slice ao l.length cap, .slice (some ⟨w.heap.size + 1 + 1 + 1, 0, none⟩) 4 4] ((((w.alloc (.cells #[.int .i64 0, .int .i64 0, .int .i64 0, .slice none 0 0] 55)).alloc (.cells #[.bool false, .int .i64 0, .int .i64 0] 34)).alloc (.cells #[.int .i64 0, .int .i64 0, .int .i64 0, .slice none 0 0, .int .i64 0] 105)).alloc (.cells #[.pointer (some ⟨w.heap.size + 1 + 1, 0, none⟩), .pointer (some ⟨w.heap.size + 1 + 1, 1, none⟩), .pointer (some ⟨w.heap.size + 1 + 1, 4, none⟩), .pointer (some ⟨w.heap.size + 1 + 1, 2, none⟩)] 107)) fun e w' => e = .returned (.tuple #[]) ∧ AB w' (w.heap.size + 1 + 1) 105 [.int .i64 (be2 l 0), .int .i64 (l.getD 2 0), .int .i64 (be4 l 4), .slice none 0 0, .int .i64 (l.getD 3 0)] ∧ Below ((w.alloc (.cells #[.int .i64 0, .int .i64 0, .int .i64 0, .slice none 0 0] 55)).alloc (.cells #[.bool false, .int .i64 0, .int .i64 0] 34)).heap.size ((w.alloc (.cells #[.int .i64 0, .int .i64 0, .int .i64 0, .slice none 0 0] 55)).alloc (.cells #[.bool false, .int .i64 0, .int .i64 0] 34)) w') := hide_ (gread_any (.slice ao l.length cap) l (w.heap.size + 1 + 1) (w.heap.size + 1 + 1 + 1) _ _ _ _ _ ((w.alloc (.cells #[.int .i64 0, .int .i64 0, .int .i64 0, .slice none 0 0] 55)).alloc (.cells #[.bool false, .int .i64 0, .int .i64 0] 34)) ((((w.alloc (.cells #[.int .i64 0, .int .i64 0, .int .i64 0, .slice none 0 0] 55)).alloc (.cells #[.bool false, .int .i64 0, .int .i64 0] 34)).alloc (.cells #[.int .i64 0, .int .i64 0, .int .i64 0, .slice none 0 0, .int .i64 0] 105)).alloc (.cells #[.pointer (some ⟨w.heap.size + 1 + 1, 0, none⟩), .pointer (some ⟨w.heap.size + 1 + 1, 1, none⟩), .pointer (some ⟨w.heap.size + 1 + 1, 4, none⟩), .pointer (some ⟨w.heap.size + 1 + 1, 2, none⟩)] 107)) (hB.later B0.out) h (((below1 ((w.alloc (.cells #[.int .i64 0, .int .i64 0, .int .i64 0, .slice none 0 0] 55)).alloc (.cells #[.bool false, .int .i64 0, .int .i64 0] 34)) (.cells #[.int .i64 0, .int .i64 0, .int .i64 0, .slice none 0 0, .int .i64 0] 105)).alloc (by simp) _)) (by simp) (by omega) (by have := (AB.at0 ((w.alloc (.cells #[.int .i64 0, .int .i64 0, .int .i64 0, .slice none 0 0] 55)).alloc (.cells #[.bool false, .int .i64 0, .int .i64 0] 34)) 105 [.int .i64 0, .int .i64 0, .int .i64 0, .slice none 0 0, .int .i64 0]).alloc (.cells #[.pointer (some ⟨w.heap.size + 1 + 1, 0, none⟩), .pointer (some ⟨w.heap.size + 1 + 1, 1, none⟩), .pointer (some ⟨w.heap.size + 1 + 1, 4, none⟩), .pointer (some ⟨w.heap.size + 1 + 1, 2, none⟩)] 107); simpa using this) (by have := AB.at0 (((w.alloc (.cells #[.int .i64 0, .int .i64 0, .int .i64 0, .slice none 0 0] 55)).alloc (.cells #[.bool false, .int .i64 0, .int .i64 0] 34)).alloc (.cells #[.int .i64 0, .int .i64 0, .int .i64 0, .slice none 0 0, .int .i64 0] 105)) 107 [.pointer (some ⟨w.heap.size + 1 + 1, 0, none⟩), .pointer (some ⟨w.heap.size + 1 + 1, 1, none⟩), .pointer (some ⟨w.heap.size + 1 + 1, 4, none⟩), .pointer (some ⟨w.heap.size + 1 + 1, 2, none⟩)]; simpa using this))
  obtain ⟨ao3, -, sl3, b3⟩ := bytes_slice hB 8 h
  have sl3 : ∀ wx, (Instr.slice 24 (.slice ao l.length cap) (some (.int .i64 8)) none none).run Try.prog wx = .ok (.slice ao3 (l.length - 8) (cap - 8)) wx := sl3
  have qd := hide_ (fun W hW => hP _ W (b3.later (w' := W) hW))
  have qc := hide_ qc
  rw [hz] at qread
  clear hB h hz hP b3
  generalize be2 l 0 = y0 at *
  generalize l.getD 2 0 = y1 at *
  generalize be4 l 4 = y2 at *
  go_enter Try.func31, Try.ntmps31
  go_upto_region 12 with (first | (go_at_call 67; refine qread.out.mono ?_; rintro e w1 ⟨rfl, C1, b1⟩; have k1 := hide_ (B0.out.trans (b1.mono (by simp; omega))); have R1 := hide_ (R0.out.later b1); have F1 := hide_ (F0.out.later b1); have C1 := hide_ C1; obtain ⟨c0, c1, c2, c3, c4, -⟩ := C1.out.k5; clear b1) | (go_at_call 68; refine (qc.out _).mono ?_; rintro e w2 ⟨rfl, b2⟩; have b2' := b2.trans ((below1 w2 (.cells #[.bool false, .int .i64 0, .int .i64 0] 34)).mono b2.size); have k2 := hide_ (k1.out.trans (b2'.mono k1.out.size)); have R2 := hide_ (R1.out.later b2'); have F2 := hide_ (F1.out.later b2'); have C2 := hide_ (C1.out.later b2'); obtain ⟨d0, d1, d2, d3, d4, -⟩ := C2.out.k5; obtain ⟨m0, m1, m2, -⟩ := (AB.at0 w2 34 [.bool false, .int .i64 0, .int .i64 0]).three; clear b2 b2') | (go_at_call 69; refine (qd.out _ k2.out).mono ?_; rintro e w3 ⟨rfl, b3⟩; have k3 := hide_ (k2.out.trans (b3.mono k2.out.size)); have R3 := hide_ (R2.out.later b3); have F3 := hide_ (F2.out.later b3); obtain ⟨m0, m1, m2, -⟩ := (AB.at0 w3 34 [.bool true, .int .i64 c, .int .i64 d]).three; clear b3))
  have k4x : Below w.heap.size w (w3.alloc (.cells #[.bool true, .int .i64 c, .int .i64 d] 34)) := k3.out.trans ((below1 w3 _).mono k3.out.size)
  have RX := hide_ (R3.out.alloc (.cells #[.bool true, .int .i64 c, .int .i64 d] 34))
  have FX := hide_ (F3.out.alloc (.cells #[.bool true, .int .i64 c, .int .i64 d] 34))
  obtain ⟨f0, f1, f2, -⟩ := (AB.at0 w3 34 [.bool true, .int .i64 c, .int .i64 d]).three
  have hgw : w.heap.size + 2 ≤ w3.heap.size := by have := F3.out.lt; omega
  generalize (w3.alloc (.cells #[.bool true, .int .i64 c, .int .i64 d] 34)) = X at *
  have RD : AB X.drew w.heap.size 55 [.int .i64 0, .int .i64 0, .int .i64 0, .slice none 0 0] := RX.out
  have FD : AB X.drew (w.heap.size + 1) 34 [.bool false, .int .i64 0, .int .i64 0] := FX.out
  obtain ⟨r0, r1, r2, r3, r4, r5, r6, r7⟩ := RD.k4
  obtain ⟨s0, s1, s2, s3, s4, s5⟩ := (FD.fark4 (f := w.heap.size) (by omega) (.int .i64 0) (.int .i64 0) (.int .i64 0) (.slice none 0 0)).three
  obtain ⟨u0, u1, u2, u3, -⟩ := ((RD.setk4 (.int .i64 0) (.int .i64 0) (.int .i64 0) (.slice none 0 0)).farx3 (f := (w.heap.size + 1)) (by omega) (.bool true) (.int .i64 c) (.int .i64 d)).k4
  obtain ⟨u4, u5, u6, -⟩ := ((FD.fark4 (f := w.heap.size) (by omega) (.int .i64 0) (.int .i64 0) (.int .i64 0) (.slice none 0 0)).set3 (.bool true) (.int .i64 c) (.int .i64 d)).three
  have bb := below_set3 (g := (w.heap.size + 1)) (below_setk4 (g := w.heap.size) k4x.drew (Nat.le_refl _) (.int .i64 0) (.int .i64 0) (.int .i64 0) (.slice none 0 0)) (by omega) (.bool true) (.int .i64 c) (.int .i64 d)
  clear RD FD bb
  refine wp_region_held_drew (S := (fun w' => w'.cell? ⟨w3.heap.size, 0, none⟩ = some (.bool true) ∧ w'.cell? ⟨w3.heap.size, 1, none⟩ = some (.int .i64 c) ∧ w'.cell? ⟨w3.heap.size, 2, none⟩ = some (.int .i64 d) ∧ Below w.heap.size w w')) (by kernel_rfl) (⟨f0, f1, f2, k4x.drew⟩) (fun hHeld => ?_)
  generalize X.drew = D at *
  refine takeR (i := 0) (v := ?_) rfl (by kernel_rfl) (by kernel_rfl) (by kernel_rfl) (some 43) rfl (Or.inl ⟨by rfl, ?_⟩) (fun _ _ _ h => h) (by assumption) ?_
  rotate_left
  · intro w hSw; (try dsimp only at hSw); go_simp; (try with_reducible rfl)
  simp only [Act.put, List.setIfInBounds_toArray, List.set_cons_zero, List.set_cons_succ]
  refine takeR (i := 1) (v := ?_) rfl (by kernel_rfl) (by kernel_rfl) (by kernel_rfl) (some 44) rfl (Or.inl ⟨by rfl, ?_⟩) (fun _ _ _ h => h) (by assumption) ?_
  rotate_left
  · intro w hSw; (try dsimp only at hSw); go_simp; (try with_reducible rfl)
  simp only [Act.put, List.setIfInBounds_toArray, List.set_cons_zero, List.set_cons_succ]
  refine wpAnyH_ready (rs := [2]) (by kernel_rfl) (by simp) ?_
  refine AllReadyH.cons rfl (fun K hK => ?_) (AllReadyH.nil)
  go_simp
  refine hK.out _ _ (⟨(cell_fillK (by dsimp only; omega) _ _ _ _).trans hHeld.1, (cell_fillK (by dsimp only; omega) _ _ _ _).trans hHeld.2.1, (cell_fillK (by dsimp only; omega) _ _ _ _).trans hHeld.2.2.1, below_setk4 (g := w.heap.size) hHeld.2.2.2 (Nat.le_refl _) _ _ _ _⟩) (fun hHeld => ?_)
  clear hK K
  try simp only [Act.put, List.setIfInBounds_toArray, List.set_cons_zero, List.set_cons_succ]
  refine wpAnyH_ready (rs := [3]) (by kernel_rfl) (by simp) ?_
  refine AllReadyH.cons rfl (fun K hK => ?_) (AllReadyH.nil)
  go_simp
  refine hK.out _ _ (kW3_3 hHeld (by omega) (by dsimp only; omega) (by dsimp only; omega) (by dsimp only; omega)) (fun hHeld => ?_)
  clear hK K
  try simp only [Act.put, List.setIfInBounds_toArray, List.set_cons_zero, List.set_cons_succ]
  refine wpAnyH_done (by kernel_rfl) ?_ _
  go_wp2_with fail
  exact bodyPost_ret (v := .tuple #[.agg #[.int .i64 0, .int .i64 0, .int .i64 0, .slice none 0 0], .agg #[.bool true, .int .i64 c, .int .i64 d]]) (by simp [results, Try.results31, go_sem, u0, u1, u2, u3, u4, u5, u6]) rfl ⟨rfl, hHeld.2.2.2⟩

set_option maxRecDepth 100000 in
set_option maxHeartbeats 8000000 in
theorem gd_ok (ao : Option Addr) (cap : Nat) (l : List Int) (K : List BK) (nK : Nat) (w : World) (hB : Bytes w (.slice ao l.length cap) l) (h : 8 ≤ l.length) (hz : l.getD 3 0 = 0) (qc : ∀ w, Calls Try.prog 68 #[.agg #[.int .i64 (be2 l 0), .int .i64 (l.getD 2 0), .int .i64 (be4 l 4), .slice none 0 0]] w fun e w' => e = .returned (.agg #[.bool false, .int .i64 0, .int .i64 0]) ∧ Below w.heap.size w w') (hP : ∀ (v : Value) (W : World), Bytes W v (l.drop 8) → Calls Try.prog 69 #[v] W fun e w' => (∃ ka kc, e = .returned (.tuple #[.slice ka nK kc, .agg #[.bool false, .int .i64 0, .int .i64 0]]) ∧ ∃ P : List PB, P.map (·.1) = K ∧ BRow w' (W.heap.size + 1) (.slice ka nK kc) P) ∧ Below W.heap.size W w') :
    Calls Try.prog 31 #[.slice ao l.length cap] w fun e w' => (∃ ka kc, e = .returned (.tuple #[.agg #[.int .i64 (be2 l 0), .int .i64 (l.getD 2 0), .int .i64 (be4 l 4), .slice ka nK kc], .agg #[.bool false, .int .i64 0, .int .i64 0]]) ∧ BuckAt w' (.slice ka nK kc) K) ∧ Below w.heap.size w w' := by
  have R0 := hide_ ((AB.at0 w 55 [.int .i64 0, .int .i64 0, .int .i64 0, .slice none 0 0]).alloc (.cells #[.bool false, .int .i64 0, .int .i64 0] 34))
  have F0 := hide_ (AB.at1 w (.cells #[.int .i64 0, .int .i64 0, .int .i64 0, .slice none 0 0] 55) 34 [.bool false, .int .i64 0, .int .i64 0])
  have B0 := hide_ (below2 w (.cells #[.int .i64 0, .int .i64 0, .int .i64 0, .slice none 0 0] 55) (.cells #[.bool false, .int .i64 0, .int .i64 0] 34))
  have hm : l.length ≤ 9223372036854775807 := by obtain ⟨_, _, h1⟩ := Bytes.at hB; unfold maxLen at *; omega
  have h' : ¬ (l.length : Int) < 8 := by omega
  have qread : Hid (Calls Try.prog 67 #[.slice ao l.length cap, .slice (some ⟨w.heap.size + 1 + 1 + 1, 0, none⟩) 4 4] ((((w.alloc (.cells #[.int .i64 0, .int .i64 0, .int .i64 0, .slice none 0 0] 55)).alloc (.cells #[.bool false, .int .i64 0, .int .i64 0] 34)).alloc (.cells #[.int .i64 0, .int .i64 0, .int .i64 0, .slice none 0 0, .int .i64 0] 105)).alloc (.cells #[.pointer (some ⟨w.heap.size + 1 + 1, 0, none⟩), .pointer (some ⟨w.heap.size + 1 + 1, 1, none⟩), .pointer (some ⟨w.heap.size + 1 + 1, 4, none⟩), .pointer (some ⟨w.heap.size + 1 + 1, 2, none⟩)] 107)) fun e w' => e = .returned (.tuple #[]) ∧ AB w' (w.heap.size + 1 + 1) 105 [.int .i64 (be2 l 0), .int .i64 (l.getD 2 0), .int .i64 (be4 l 4), .slice none 0 0, .int .i64 (l.getD 3 0)] ∧ Below ((w.alloc (.cells #[.int .i64 0, .int .i64 0, .int .i64 0, .slice none 0 0] 55)).alloc (.cells #[.bool false, .int .i64 0, .int .i64 0] 34)).heap.size ((w.alloc (.cells #[.int .i64 0, .int .i64 0, .int .i64 0, .slice none 0 0] 55)).alloc (.cells #[.bool false, .int .i64 0, .int .i64 0] 34)) w') := hide_ (gread_any (.slice ao l.length cap) l (w.heap.size + 1 + 1) (w.heap.size + 1 + 1 + 1) _ _ _ _ _ ((w.alloc (.cells #[.int .i64 0, .int .i64 0, .int .i64 0, .slice none 0 0] 55)).alloc (.cells #[.bool false, .int .i64 0, .int .i64 0] 34)) ((((w.alloc (.cells #[.int .i64 0, .int .i64 0, .int .i64 0, .slice none 0 0] 55)).alloc (.cells #[.bool false, .int .i64 0, .int .i64 0] 34)).alloc (.cells #[.int .i64 0, .int .i64 0, .int .i64 0, .slice none 0 0, .int .i64 0] 105)).alloc (.cells #[.pointer (some ⟨w.heap.size + 1 + 1, 0, none⟩), .pointer (some ⟨w.heap.size + 1 + 1, 1, none⟩), .pointer (some ⟨w.heap.size + 1 + 1, 4, none⟩), .pointer (some ⟨w.heap.size + 1 + 1, 2, none⟩)] 107)) (hB.later B0.out) h (((below1 ((w.alloc (.cells #[.int .i64 0, .int .i64 0, .int .i64 0, .slice none 0 0] 55)).alloc (.cells #[.bool false, .int .i64 0, .int .i64 0] 34)) (.cells #[.int .i64 0, .int .i64 0, .int .i64 0, .slice none 0 0, .int .i64 0] 105)).alloc (by simp) _)) (by simp) (by omega) (by have := (AB.at0 ((w.alloc (.cells #[.int .i64 0, .int .i64 0, .int .i64 0, .slice none 0 0] 55)).alloc (.cells #[.bool false, .int .i64 0, .int .i64 0] 34)) 105 [.int .i64 0, .int .i64 0, .int .i64 0, .slice none 0 0, .int .i64 0]).alloc (.cells #[.pointer (some ⟨w.heap.size + 1 + 1, 0, none⟩), .pointer (some ⟨w.heap.size + 1 + 1, 1, none⟩), .pointer (some ⟨w.heap.size + 1 + 1, 4, none⟩), .pointer (some ⟨w.heap.size + 1 + 1, 2, none⟩)] 107); simpa using this) (by have := AB.at0 (((w.alloc (.cells #[.int .i64 0, .int .i64 0, .int .i64 0, .slice none 0 0] 55)).alloc (.cells #[.bool false, .int .i64 0, .int .i64 0] 34)).alloc (.cells #[.int .i64 0, .int .i64 0, .int .i64 0, .slice none 0 0, .int .i64 0] 105)) 107 [.pointer (some ⟨w.heap.size + 1 + 1, 0, none⟩), .pointer (some ⟨w.heap.size + 1 + 1, 1, none⟩), .pointer (some ⟨w.heap.size + 1 + 1, 4, none⟩), .pointer (some ⟨w.heap.size + 1 + 1, 2, none⟩)]; simpa using this))
  obtain ⟨ao3, -, sl3, b3⟩ := bytes_slice hB 8 h
  have sl3 : ∀ wx, (Instr.slice 24 (.slice ao l.length cap) (some (.int .i64 8)) none none).run Try.prog wx = .ok (.slice ao3 (l.length - 8) (cap - 8)) wx := sl3
  have qd := hide_ (fun W hW => hP _ W (b3.later (w' := W) hW))
  have qc := hide_ qc
  rw [hz] at qread
  clear hB h hz hP b3
  generalize be2 l 0 = y0 at *
  generalize l.getD 2 0 = y1 at *
  generalize be4 l 4 = y2 at *
  go_enter Try.func31, Try.ntmps31
  go_wp2_with (first | (go_at_call 67; refine qread.out.mono ?_; rintro e w1 ⟨rfl, C1, b1⟩; have k1 := hide_ (B0.out.trans (b1.mono (by simp; omega))); have R1 := hide_ (R0.out.later b1); have F1 := hide_ (F0.out.later b1); have C1 := hide_ C1; obtain ⟨c0, c1, c2, c3, c4, -⟩ := C1.out.k5; clear b1) | (go_at_call 68; refine (qc.out _).mono ?_; rintro e w2 ⟨rfl, b2⟩; have b2' := b2.trans ((below1 w2 (.cells #[.bool false, .int .i64 0, .int .i64 0] 34)).mono b2.size); have k2 := hide_ (k1.out.trans (b2'.mono k1.out.size)); have R2 := hide_ (R1.out.later b2'); have F2 := hide_ (F1.out.later b2'); have C2 := hide_ (C1.out.later b2'); obtain ⟨d0, d1, d2, d3, d4, -⟩ := C2.out.k5; obtain ⟨m0, m1, m2, -⟩ := (AB.at0 w2 34 [.bool false, .int .i64 0, .int .i64 0]).three; clear b2 b2') | (go_at_call 69; refine (qd.out _ k2.out).mono ?_; rintro e w3 ⟨⟨ka, kc, rfl, P, hPK, hR⟩, b3⟩; have HR3 := hide_ hR; have HPK := hide_ hPK; have b3' := b3.trans ((below1 w3 (.cells #[.bool false, .int .i64 0, .int .i64 0] 34)).mono b3.size); have k3 := hide_ (k2.out.trans (b3'.mono k2.out.size)); have R3 := hide_ (R2.out.later b3'); have F3 := hide_ (F2.out.later b3'); have C3 := hide_ (C2.out.later b3'); obtain ⟨m0, m1, m2, -⟩ := (AB.at0 w3 34 [.bool false, .int .i64 0, .int .i64 0]).three; obtain ⟨j0, j1, j2, j3, j4, i0, i1, i2, i3, i4⟩ := C3.out.k5; have C4 : Hid (AB ((w3.alloc (.cells #[.bool false, .int .i64 0, .int .i64 0] 34)).setCell ⟨w.heap.size + 1 + 1, 3, none⟩ (.slice ka nK kc)) (w.heap.size + 1 + 1) 105 [.int .i64 y0, .int .i64 y1, .int .i64 y2, .slice ka nK kc, .int .i64 0]) := hide_ (C3.out.set (j := 3) _); obtain ⟨q0, q1, q2, q3, q4, -⟩ := C4.out.k5; have R4 : AB ((w3.alloc (.cells #[.bool false, .int .i64 0, .int .i64 0] 34)).setCell ⟨w.heap.size + 1 + 1, 3, none⟩ (.slice ka nK kc)) w.heap.size 55 [.int .i64 0, .int .i64 0, .int .i64 0, .slice none 0 0] := R3.out.far _ (by omega); have F4 : AB ((w3.alloc (.cells #[.bool false, .int .i64 0, .int .i64 0] 34)).setCell ⟨w.heap.size + 1 + 1, 3, none⟩ (.slice ka nK kc)) (w.heap.size + 1) 34 [.bool false, .int .i64 0, .int .i64 0] := F3.out.far _ (by omega); have k4 : Below w.heap.size w ((w3.alloc (.cells #[.bool false, .int .i64 0, .int .i64 0] 34)).setCell ⟨w.heap.size + 1 + 1, 3, none⟩ (.slice ka nK kc)) := k3.out.setCell (p := ⟨w.heap.size + 1 + 1, 3, none⟩) (by simp; omega) _; obtain ⟨r0, r1, r2, r3, r4, r5, r6, r7⟩ := R4.k4; obtain ⟨s0, s1, s2, s3, s4, s5⟩ := (F4.fark4 (f := w.heap.size) (by omega) (.int .i64 y0) (.int .i64 y1) (.int .i64 y2) (.slice ka nK kc)).three; obtain ⟨u0, u1, u2, u3, -⟩ := ((R4.setk4 (.int .i64 y0) (.int .i64 y1) (.int .i64 y2) (.slice ka nK kc)).farx3 (f := (w.heap.size + 1)) (by omega) (.bool false) (.int .i64 0) (.int .i64 0)).k4; obtain ⟨u4, u5, u6, -⟩ := ((F4.fark4 (f := w.heap.size) (by omega) (.int .i64 y0) (.int .i64 y1) (.int .i64 y2) (.slice ka nK kc)).set3 (.bool false) (.int .i64 0) (.int .i64 0)).three; have bb := below_set3 (g := (w.heap.size + 1)) (below_setk4 (g := w.heap.size) k4 (Nat.le_refl _) (.int .i64 y0) (.int .i64 y1) (.int .i64 y2) (.slice ka nK kc)) (by omega) (.bool false) (.int .i64 0) (.int .i64 0); have hlt2 := C2.out.lt; clear b3 b3' hPK hR))
  refine bodyPost_ret (v := .tuple #[.agg #[.int .i64 y0, .int .i64 y1, .int .i64 y2, .slice ka nK kc], .agg #[.bool false, .int .i64 0, .int .i64 0]]) (by simp [results, Try.results31, go_sem, u0, u1, u2, u3, u4, u5, u6]) rfl ⟨⟨ka, kc, rfl, ?_⟩, bb⟩
  rw [← HPK.out]
  rw [World.size_alloc] at HR3 hlt2
  exact (((((((((HR3.out.later (below1 w3 _)).set (g := w.heap.size + 1 + 1) (by omega) _).set (g := w.heap.size) (by omega) _).set (g := w.heap.size) (by omega) _).set (g := w.heap.size) (by omega) _).set (g := w.heap.size) (by omega) _).set (g := w.heap.size + 1) (by omega) _).set (g := w.heap.size + 1) (by omega) _).set (g := w.heap.size + 1) (by omega) _).at_

end Go.Proofs.Ytkhpbkdblhcepaa

namespace Go.Proofs.Ytkhpbkdblhcepaa
open Go Go.RowKit
set_option linter.unusedVariables false
set_option linter.unusedSimpArgs false

theorem buck_formU {w : World} {v : Value} {L : List BK} (h : BuckAt w v L) : ∃ s c, v = .slice s L.length c := by
  obtain ⟨s, cap, rfl, -⟩ := h
  exact ⟨s, cap, rfl⟩
/-- the change that these bytes are, its buckets told by D -/
def gHead (l : List Int) : Prop := 8 ≤ l.length ∧ l.getD 3 0 = 0
def gOK (D : List Int → Value → Prop) (l : List Int) (K : List BK) : Prop := gHead l ∧ cR (be2 l 0) = true ∧ kR (l.getD 2 0) = true ∧ (l.drop 8).length ≤ 60000 ∧ BOk D (l.drop 8) K ∧ K.length ≤ 100
/-- the fault that these bytes are -/
def gBad (D : List Int → Value → Prop) (l : List Int) (c d : Int) : Prop :=
  (¬ gHead l ∧ c = 1 ∧ d = 6) ∨ (gHead l ∧ ((cR (be2 l 0) = false ∧ c = 6 ∧ d = 11) ∨ (cR (be2 l 0) = true ∧ ((kR (l.getD 2 0) = false ∧ c = 6 ∧ d = 10) ∨ (kR (l.getD 2 0) = true ∧
    ((60000 < (l.drop 8).length ∧ c = 6 ∧ d = 12) ∨ ((l.drop 8).length ≤ 60000 ∧ (BBad D (l.drop 8) c d ∨ ∃ K, BOk D (l.drop 8) K ∧ 100 < K.length ∧ c = 6 ∧ d = 4)))))))) 
theorem g_all (l : List Int) (hl : isB l) : (∃ K, gOK Ans l K ∧ gOK RAns l K) ∨ ∃ c d, gBad Ans l c d ∧ gBad RAns l c d := by
  by_cases h1 : gHead l
  · cases h2 : cR (be2 l 0)
    · exact .inr ⟨6, 11, .inr ⟨h1, .inl ⟨h2, rfl, rfl⟩⟩, .inr ⟨h1, .inl ⟨h2, rfl, rfl⟩⟩⟩
    · cases h3 : kR (l.getD 2 0)
      · exact .inr ⟨6, 10, .inr ⟨h1, .inr ⟨h2, .inl ⟨h3, rfl, rfl⟩⟩⟩, .inr ⟨h1, .inr ⟨h2, .inl ⟨h3, rfl, rfl⟩⟩⟩⟩
      · by_cases h4 : (l.drop 8).length ≤ 60000
        · rcases bucks_all _ (l.drop 8) (Nat.le_refl _) (isB_dropK hl 8) with ⟨K, k1, k2⟩ | ⟨c, d, k1, k2⟩
          · by_cases h5 : K.length ≤ 100
            · exact .inl ⟨K, ⟨h1, h2, h3, h4, k1, h5⟩, ⟨h1, h2, h3, h4, k2, h5⟩⟩
            · exact .inr ⟨6, 4, .inr ⟨h1, .inr ⟨h2, .inr ⟨h3, .inr ⟨h4, .inr ⟨K, k1, by omega, rfl, rfl⟩⟩⟩⟩⟩, .inr ⟨h1, .inr ⟨h2, .inr ⟨h3, .inr ⟨h4, .inr ⟨K, k2, by omega, rfl, rfl⟩⟩⟩⟩⟩⟩
          · exact .inr ⟨c, d, .inr ⟨h1, .inr ⟨h2, .inr ⟨h3, .inr ⟨h4, .inl k1⟩⟩⟩⟩, .inr ⟨h1, .inr ⟨h2, .inr ⟨h3, .inr ⟨h4, .inl k2⟩⟩⟩⟩⟩
        · exact .inr ⟨6, 12, .inr ⟨h1, .inr ⟨h2, .inr ⟨h3, .inl ⟨by omega, rfl, rfl⟩⟩⟩⟩, .inr ⟨h1, .inr ⟨h2, .inr ⟨h3, .inl ⟨by omega, rfl, rfl⟩⟩⟩⟩⟩
  · exact .inr ⟨1, 6, .inl ⟨h1, rfl, rfl⟩, .inl ⟨h1, rfl, rfl⟩⟩
theorem gdec_ok (v : Value) (l : List Int) (K : List BK) (w : World) (hB : Bytes w v l) (h : gOK Ans l K) :
    Calls Try.prog 31 #[v] w fun e w' => (∃ ka kc, e = .returned (.tuple #[.agg #[.int .i64 (be2 l 0), .int .i64 (l.getD 2 0), .int .i64 (be4 l 4), .slice ka K.length kc], .agg #[.bool false, .int .i64 0, .int .i64 0]]) ∧ BuckAt w' (.slice ka K.length kc) K) ∧ Below w.heap.size w w' := by
  obtain ⟨⟨h1, h2⟩, h3, h4, h5, h6, h7⟩ := h
  obtain ⟨ao, cap, rfl⟩ := hB.short
  refine gd_ok ao cap l K K.length w hB h1 h2 (fun w => gchk_ok _ _ _ none 0 0 w h3 h4) (fun v W hv => (bd_okS v _ K W hv h5 h6 h7).mono ?_)
  rintro e w' ⟨⟨r, rfl, P, hP, hR⟩, hb⟩
  have hat := hR.at_
  rw [hP] at hat
  obtain ⟨s, c, rfl⟩ := buck_formU hat
  exact ⟨⟨s, c, rfl, P, hP, hR⟩, hb⟩
theorem gdec_bad (v : Value) (l : List Int) (c d : Int) (w : World) (hB : Bytes w v l) (h : gBad Ans l c d) :
    Calls Try.prog 31 #[v] w fun e w' => e = .returned (.tuple #[.agg #[.int .i64 0, .int .i64 0, .int .i64 0, .slice none 0 0], .agg #[.bool true, .int .i64 c, .int .i64 d]]) ∧ Below w.heap.size w w' := by
  obtain ⟨ao, cap, rfl⟩ := hB.short
  rcases h with ⟨h, rfl, rfl⟩ | ⟨⟨h1, h2⟩, h⟩
  · by_cases h8 : l.length < 8
    · exact gd_short ao cap l w hB h8
    · exact gd_nz ao cap l w hB (by omega) (fun e => h ⟨by omega, e⟩)
  · rcases h with ⟨h3, rfl, rfl⟩ | ⟨h3, h⟩
    · exact gd_chk ao cap l 11 w hB h1 h2 (fun w => gchk_c _ _ _ none 0 0 w h3)
    · rcases h with ⟨h4, rfl, rfl⟩ | ⟨h4, h⟩
      · exact gd_chk ao cap l 10 w hB h1 h2 (fun w => gchk_k _ _ _ none 0 0 w h3 h4)
      · refine gd_bad ao cap l c d w hB h1 h2 (fun w => gchk_ok _ _ _ none 0 0 w h3 h4) (fun v W hv => ?_)
        rcases h with ⟨h5, rfl, rfl⟩ | ⟨h5, h | ⟨K, h6, h7, rfl, rfl⟩⟩
        · exact bd_big v _ W hv h5
        · exact bd_bad v _ c d W hv h5 h
        · exact bd_many v _ K W hv h5 h6 h7
theorem spl1_eq (n : Int) : spl n 1 = [n % 256] := by simp [spl]
theorem gE_form (c k i : Int) (L : List BK) : gE c k i L = c / 256 % 256 :: c % 256 :: k % 256 :: 0 :: i / 16777216 :: i / 65536 % 256 :: i / 256 % 256 :: i % 256 :: encK L := by
  unfold gE p4F p3F p2F p1F
  rw [spl2_eq, spl1_eq, spl1_eq, spl4_eq]
  rfl
theorem gok_enc {c k i : Int} {L : List BK} (hF : BFit L) (h : gR c k i L = true) : gOK Ans (gE c k i L) L ∧ be2 (gE c k i L) 0 = c ∧ (gE c k i L).getD 2 0 = k ∧ be4 (gE c k i L) 4 = i := by
  obtain ⟨h1, h2, h3, h4⟩ := gR_parts h
  obtain ⟨h5, h6, h7⟩ := gB_parts h4
  have r1 : 0 ≤ c ∧ c ≤ 2 := by unfold cR at h1; simpa using h1
  have r2 : 0 ≤ k ∧ k ≤ 3 := by unfold kR at h2; simpa using h2
  have r3 := rightB_4 h3
  have e1 : be2 (gE c k i L) 0 = c := by rw [gE_form, be2_at0]; omega
  have e2 : (gE c k i L).getD 2 0 = k := by
    rw [gE_form]
    show k % 256 = k
    omega
  have e3 : be4 (gE c k i L) 4 = i := by rw [gE_form, be4_at4]; omega
  have e4 : (gE c k i L).drop 8 = encK L := by rw [gE_form]; rfl
  have e5 : (gE c k i L).getD 3 0 = 0 := by rw [gE_form]; rfl
  refine ⟨⟨⟨by rw [gE_len]; omega, e5⟩, by rw [e1]; exact h1, by rw [e2]; exact h2, by rw [e4]; exact h7, by rw [e4]; exact bok_enc L hF h6, h5⟩, e1, e2, e3⟩
theorem gok_all {l : List Int} {K : List BK} (hl : isB l) (h : gOK Ans l K) : gE (be2 l 0) (l.getD 2 0) (be4 l 4) K = l ∧ BFit K ∧ gR (be2 l 0) (l.getD 2 0) (be4 l 4) K = true := by
  obtain ⟨⟨h1, h2⟩, h3, h4, h5, h6, h7⟩ := h
  obtain ⟨e1, e2, e3⟩ := bok_all h6 (isB_dropK hl 8)
  have hr := be4_range hl 4
  have r3 : rightB (be4 l 4) 4 = true := by simp [rightB, szB, lim]; omega
  refine ⟨?_, e2, ?_⟩
  · match l, h1 with
    | b0 :: b1 :: b2 :: b3 :: b4 :: b5 :: b6 :: b7 :: r, _ =>
      have q0 := hl b0 (by simp)
      have q1 := hl b1 (by simp)
      have q2 := hl b2 (by simp)
      have q4 := hl b4 (by simp)
      have q5 := hl b5 (by simp)
      have q6 := hl b6 (by simp)
      have q7 := hl b7 (by simp)
      have h2' : b3 = 0 := h2
      subst h2'
      have e1' : encK K = r := e1
      rw [gE_form, e1', be2_at0, be4_at4]
      show (b0 * 256 + b1) / 256 % 256 :: (b0 * 256 + b1) % 256 :: b2 % 256 :: 0 :: (((b4 * 256 + b5) * 256 + b6) * 256 + b7) / 16777216 :: (((b4 * 256 + b5) * 256 + b6) * 256 + b7) / 65536 % 256 :: (((b4 * 256 + b5) * 256 + b6) * 256 + b7) / 256 % 256 :: (((b4 * 256 + b5) * 256 + b6) * 256 + b7) % 256 :: r = _
      congr 1
      · omega
      congr 1
      · omega
      congr 1
      · omega
      congr 1
      congr 1
      · omega
      congr 1
      · omega
      congr 1
      · omega
      congr 1
      omega
  · have hb : gB K = true := by
      unfold gB
      rw [decide_eq_true h7, e3, e1, decide_eq_true h5]; rfl
    show ((cR (be2 l 0) && (kR (l.getD 2 0) && rightB (be4 l 4) 4)) && gB K) = true
    rw [h3, h4, r3, hb]; rfl
end Go.Proofs.Ytkhpbkdblhcepaa

namespace Go.Proofs.Ytkhpbkdblhcepaa
open Go Go.RowKit
set_option linter.unusedVariables false
set_option linter.unusedSimpArgs false

def L18 : List BK := [(0, 2, 0, [])]
def B18 : List Int := gE 1 3 9 L18
theorem l18_fit : BFit L18 := by
  intro o ho
  simp only [L18, List.mem_cons, List.not_mem_nil, or_false] at ho
  subst ho
  intro k p x q y f m a b c d hi
  cases hi
theorem l18_right : gR 1 3 9 L18 = true := by decide +kernel
theorem b18_len : B18.length = 24 := by decide +kernel
theorem l18_row (w : World) : BRow (w.alloc (.cells #[.int .i64 0, .int .i64 2, .int .i64 0, .slice none 0 0] 98)) w.heap.size (.slice (some ⟨w.heap.size, 0, none⟩) 1 1) [((0, 2, 0, []), .slice none 0 0)] := by
  refine ⟨⟨rfl, .inr ⟨w.heap.size, 1, _, rfl, Nat.le_refl _, heap_alloc_last w _, Nat.le_refl _, by decide, rfl, rfl⟩⟩, fun p hp => ?_⟩
  simp only [List.mem_cons, List.not_mem_nil, or_false] at hp
  subst hp
  exact World.ownsRow_nil _ _ _ _
theorem bad18 : gBad Ans [0, 5, 0, 0, 0, 0, 0, 0] 6 11 := .inr ⟨⟨by decide, rfl⟩, .inl ⟨by decide, rfl, rfl⟩⟩
theorem same18 : sameG 1 3 9 L18 1 3 9 L18 = true := by
  unfold sameG
  rw [sameBL_true rfl]
  rfl
set_option maxRecDepth 100000 in
set_option maxHeartbeats 8000000 in
theorem awake18_any (w : World) :
    Calls Try.prog 29 #[] w fun e w' => e = .returned (.bool true) ∧ Below w.heap.size w w' := by
  have BB := hide_ (below2 w (.cells #[.int .i64 0, .int .i64 2, .int .i64 0, .slice none 0 0] 98) (.cells #[.int .i64 1, .int .i64 3, .int .i64 9, .slice (some ⟨w.heap.size, 0, none⟩) 1 1] 55))
  have HA : Hid (BuckAt ((w.alloc (.cells #[.int .i64 0, .int .i64 2, .int .i64 0, .slice none 0 0] 98)).alloc (.cells #[.int .i64 1, .int .i64 3, .int .i64 9, .slice (some ⟨w.heap.size, 0, none⟩) 1 1] 55)) (.slice (some ⟨w.heap.size, 0, none⟩) 1 1) L18) := hide_ ((l18_row w).later (below1 _ (.cells #[.int .i64 1, .int .i64 3, .int .i64 9, .slice (some ⟨w.heap.size, 0, none⟩) 1 1] 55))).at_
  have A1 := hide_ (AB.at1 w (.cells #[.int .i64 0, .int .i64 2, .int .i64 0, .slice none 0 0] 98) 55 [.int .i64 1, .int .i64 3, .int .i64 9, .slice (some ⟨w.heap.size, 0, none⟩) 1 1])
  obtain ⟨x0, x1, x2, x3, -⟩ := A1.out.k4
  have qe := hide_ (genc_yes 1 3 9 _ _ _ L18 ((w.alloc (.cells #[.int .i64 0, .int .i64 2, .int .i64 0, .slice none 0 0] 98)).alloc (.cells #[.int .i64 1, .int .i64 3, .int .i64 9, .slice (some ⟨w.heap.size, 0, none⟩) 1 1] 55)) HA.out l18_fit l18_right)
  obtain ⟨hok, he1, he2, he3⟩ := gok_enc l18_fit l18_right
  have qd : Hid (∀ (v : Value) (W : World), Bytes W v B18 → Calls Try.prog 31 #[v] W fun e w' => (∃ ka kc, e = .returned (.tuple #[.agg #[.int .i64 1, .int .i64 3, .int .i64 9, .slice ka 1 kc], .agg #[.bool false, .int .i64 0, .int .i64 0]]) ∧ BuckAt w' (.slice ka 1 kc) L18) ∧ Below W.heap.size W w') := hide_ (fun v W h => by
    have := gdec_ok v B18 L18 W h hok
    rw [show be2 B18 0 = 1 from he1, show B18.getD 2 0 = 3 from he2, show be4 B18 4 = 9 from he3] at this
    exact this)
  have qb := hide_ (fun (v : Value) (W : World) (h : Bytes W v [0, 5, 0, 0, 0, 0, 0, 0]) => gdec_bad v _ 6 11 W h bad18)
  have qs := hide_ (fun (su : Option Addr) (cu : Nat) (s2 : Option Addr) (c2 : Nat) (W : World) h1 h2 => gsame_any 1 3 9 su 1 cu L18 1 3 9 s2 1 c2 L18 W h1 h2)
  rw [same18] at qs
  have qr := hide_ (fun (su : Option Addr) (cu : Nat) (W : World) h => gright_yes 1 3 9 su 1 cu L18 W h l18_fit l18_right)
  have LN := hide_ b18_len
  clear hok he1 he2 he3
  go_enter Try.func29, Try.ntmps29
  go_wp2_with (first
    | (go_at_call 30; refine qe.out.mono ?_; rintro e w2 ⟨⟨r, rfl, o2⟩, b2⟩; have hb2 : Bytes w2 r B18 := o2.bytes; obtain ⟨ra, rc, re⟩ := hb2.short; rw [LN.out] at re; subst re; have HB2 := hide_ hb2; have K2 := hide_ (BB.out.trans (b2.mono BB.out.size)); have H2 := hide_ (HA.out.later b2); have A2 := hide_ (A1.out.later b2); clear b2 o2 hb2)
    | (go_at_call_of 31 (Value.slice ra 24 rc); refine (qd.out _ _ HB2.out).mono ?_; rintro e w3 ⟨⟨ka, kc, rfl, o3⟩, b3⟩; have jx := hide_ (b3.trans ((below3 w3 (.cells #[.int .i64 1, .int .i64 3, .int .i64 9, .slice ka 1 kc] 55) (.cells #[.bool false, .int .i64 0, .int .i64 0] 34) (.cells #[.int .u8 0, .int .u8 5, .int .u8 0, .int .u8 0, .int .u8 0, .int .u8 0, .int .u8 0, .int .u8 0] 5)).mono b3.size)); have K3 := hide_ (K2.out.trans (jx.out.mono K2.out.size)); have H3 := hide_ (H2.out.later jx.out); have A3 := hide_ (A2.out.later jx.out); have O3 := hide_ (o3.later (below3 w3 (.cells #[.int .i64 1, .int .i64 3, .int .i64 9, .slice ka 1 kc] 55) (.cells #[.bool false, .int .i64 0, .int .i64 0] 34) (.cells #[.int .u8 0, .int .u8 5, .int .u8 0, .int .u8 0, .int .u8 0, .int .u8 0, .int .u8 0, .int .u8 0] 5))); have N3 := hide_ (((AB.at0 w3 55 [.int .i64 1, .int .i64 3, .int .i64 9, .slice ka 1 kc]).alloc (.cells #[.bool false, .int .i64 0, .int .i64 0] 34)).alloc (.cells #[.int .u8 0, .int .u8 5, .int .u8 0, .int .u8 0, .int .u8 0, .int .u8 0, .int .u8 0, .int .u8 0] 5)); have F3 := hide_ ((AB.at1 w3 (.cells #[.int .i64 1, .int .i64 3, .int .i64 9, .slice ka 1 kc] 55) 34 [.bool false, .int .i64 0, .int .i64 0]).alloc (.cells #[.int .u8 0, .int .u8 5, .int .u8 0, .int .u8 0, .int .u8 0, .int .u8 0, .int .u8 0, .int .u8 0] 5)); have X3B : Hid (Bytes (((w3.alloc (.cells #[.int .i64 1, .int .i64 3, .int .i64 9, .slice ka 1 kc] 55)).alloc (.cells #[.bool false, .int .i64 0, .int .i64 0] 34)).alloc (.cells #[.int .u8 0, .int .u8 5, .int .u8 0, .int .u8 0, .int .u8 0, .int .u8 0, .int .u8 0, .int .u8 0] 5)) (.slice (some ⟨w3.heap.size + 1 + 1, 0, none⟩) 8 8) [0, 5, 0, 0, 0, 0, 0, 0]) := hide_ (by have := Bytes.lit ((w3.alloc (.cells #[.int .i64 1, .int .i64 3, .int .i64 9, .slice ka 1 kc] 55)).alloc (.cells #[.bool false, .int .i64 0, .int .i64 0] 34)) [0, 5, 0, 0, 0, 0, 0, 0] 5 (fun z hz => by simp at hz; omega) (by decide); simpa [u8s] using this); clear o3 b3)
    | (go_at_call 31; refine (qb.out _ _ X3B.out).mono ?_; rintro e w4 ⟨rfl, b4⟩; have j4 := hide_ (b4.trans ((below2 w4 (.cells #[.int .i64 0, .int .i64 0, .int .i64 0, .slice none 0 0] 55) (.cells #[.bool true, .int .i64 6, .int .i64 11] 34)).mono b4.size)); obtain ⟨g0, g1, g2, -⟩ := (AB.at1 w4 (.cells #[.int .i64 0, .int .i64 0, .int .i64 0, .slice none 0 0] 55) 34 [.bool true, .int .i64 6, .int .i64 11]).three; have A4 := hide_ (A3.out.later j4.out); obtain ⟨y0, y1, y2, y3, -⟩ := A4.out.k4; have N4 := hide_ (N3.out.later j4.out); obtain ⟨z0, z1, z2, z3, -⟩ := N4.out.k4; have Q4 := F3.out.later j4.out; obtain ⟨f0, f1, f2, -⟩ := Q4.three; have K4 := hide_ (K3.out.trans (j4.out.mono K3.out.size)); have H4 := hide_ (H3.out.later j4.out); have O4 := hide_ (O3.out.later j4.out); clear Q4 b4)
    | (go_at_call 32; refine (qs.out _ _ _ _ _ H4.out O4.out).mono ?_; rintro e w5 ⟨rfl, b5⟩; have K5 := hide_ (K4.out.trans (b5.mono K4.out.size)); have A5 := A4.out.later b5; obtain ⟨y0, y1, y2, y3, -⟩ := A5.k4; have H5 := hide_ (H4.out.later b5); have g0 := cell_later b5 g0; have g1 := cell_later b5 g1; have g2 := cell_later b5 g2; clear b5 A5)
    | (go_at_call 64; refine (qr.out _ _ _ H5.out).mono ?_; rintro e w6 ⟨rfl, b6⟩; have K6 := hide_ (K5.out.trans (b6.mono K5.out.size)); have g0 := cell_later b6 g0; have g1 := cell_later b6 g1; have g2 := cell_later b6 g2; clear b6))
  go_ret
  exact ⟨rfl, K6.out⟩

end Go.Proofs.Ytkhpbkdblhcepaa

