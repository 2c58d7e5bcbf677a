import Derived.Test.YtlincickgleddaaRa
import Derived.Deep.RegionHeld3
import Derived.Deep.RegionWith
import Derived.Deep.MidRow
namespace Go.Proofs.Ytlincickgleddaa
open Go Go.RowKit
set_option linter.unusedVariables false
set_option linter.unusedSimpArgs false

/-- what rewriting makes of terns -/
def wout4 (q r : Q4) : Q4 := (q.1 &&& andn q.2.2.1 r.2.2.1, q.2.1 &&& andn q.2.2.2 r.2.2.2, andn q.2.2.1 r.2.2.1, andn q.2.2.2 r.2.2.2)
def over4 (q r : Q4) : Q4 := (q.1 &&& andn q.2.2.1 r.2.2.1 ||| r.1 &&& r.2.2.1, q.2.1 &&& andn q.2.2.2 r.2.2.2 ||| r.2.1 &&& r.2.2.2, andn q.2.2.1 r.2.2.1 ||| r.2.2.1, andn q.2.2.2 r.2.2.2 ||| r.2.2.2)
theorem zR' : (Try.prog.info? 28).map (fun i => (i.zero, i.size)) = some (some (.agg (tdc z24q).toArray), 96) := by kernel_rfl
theorem szR {l : List Q4} (h : l.length = 24) : (Try.prog.info? 28).map (·.size) = some (tdc l).length := by
  have e : (tdc l).length = 96 := by rw [tdc_length, h]
  exact Eq.trans (by kernel_rfl : (Try.prog.info? 28).map (·.size) = some 96) (by rw [e])
theorem map_len (t : Nat → Q4) : ((List.range 24).map t).length = 24 := by simp

set_option maxRecDepth 100000 in
set_option maxHeartbeats 2000000 in
theorem rthen_fn (l m : List Q4) (g f k a b c d a2 b2 c2 d2 : Nat) (w : World) (hk : k < 24) (hl : l[k]? = some (a, b, c, d)) (hm : m[k]? = some (a2, b2, c2, d2)) (ha : a < 18446744073709551616) (hb : b < 18446744073709551616) (hc : c < 18446744073709551616) (hd : d < 18446744073709551616) (ha2 : a2 < 18446744073709551616) (hb2 : b2 < 18446744073709551616) (hc2 : c2 < 18446744073709551616) (hd2 : d2 < 18446744073709551616) (hA : AB w g 28 (tdc l)) (hH : AB w f 28 (tdc m)) :
    Calls Try.prog 37 #[.int .i64 (k : Int), .pointer (some ⟨g, 0, none⟩), .pointer (some ⟨f, 0, none⟩)] w fun e w' => e = .returned (td (a &&& andn c c2 ||| a2 &&& c2) (b &&& andn d d2 ||| b2 &&& d2) (andn c c2 ||| c2) (andn d d2 ||| d2)) ∧ Below w.heap.size w w' := by
  have q1 := hide_ (fun w => rwover_any a b c d a2 b2 c2 d2 w ha hb hc hd ha2 hb2 hc2 hd2)
  generalize a &&& andn c c2 ||| a2 &&& c2 = m1 at *
  generalize b &&& andn d d2 ||| b2 &&& d2 = m2 at *
  generalize andn c c2 ||| c2 = m3 at *
  generalize andn d d2 ||| d2 = m4 at *
  have hg := hA.lt
  have hf := hH.lt
  have O : Hid ((w.alloc (.cells #[.int .u64 (0 : Int), .int .u64 (0 : Int), .int .u64 (0 : Int), .int .u64 (0 : Int)] 26)).cell? ⟨g, k * 4, none⟩ = some (.int .u64 (a : Int)) ∧ (w.alloc (.cells #[.int .u64 (0 : Int), .int .u64 (0 : Int), .int .u64 (0 : Int), .int .u64 (0 : Int)] 26)).cell? ⟨g, k * 4 + 1, none⟩ = some (.int .u64 (b : Int)) ∧ (w.alloc (.cells #[.int .u64 (0 : Int), .int .u64 (0 : Int), .int .u64 (0 : Int), .int .u64 (0 : Int)] 26)).cell? ⟨g, k * 4 + 2, none⟩ = some (.int .u64 (c : Int)) ∧ (w.alloc (.cells #[.int .u64 (0 : Int), .int .u64 (0 : Int), .int .u64 (0 : Int), .int .u64 (0 : Int)] 26)).cell? ⟨g, k * 4 + 3, none⟩ = some (.int .u64 (d : Int)) ∧ (w.alloc (.cells #[.int .u64 (0 : Int), .int .u64 (0 : Int), .int .u64 (0 : Int), .int .u64 (0 : Int)] 26)).cell? ⟨f, k * 4, none⟩ = some (.int .u64 (a2 : Int)) ∧ (w.alloc (.cells #[.int .u64 (0 : Int), .int .u64 (0 : Int), .int .u64 (0 : Int), .int .u64 (0 : Int)] 26)).cell? ⟨f, k * 4 + 1, none⟩ = some (.int .u64 (b2 : Int)) ∧ (w.alloc (.cells #[.int .u64 (0 : Int), .int .u64 (0 : Int), .int .u64 (0 : Int), .int .u64 (0 : Int)] 26)).cell? ⟨f, k * 4 + 2, none⟩ = some (.int .u64 (c2 : Int)) ∧ (w.alloc (.cells #[.int .u64 (0 : Int), .int .u64 (0 : Int), .int .u64 (0 : Int), .int .u64 (0 : Int)] 26)).cell? ⟨f, k * 4 + 3, none⟩ = some (.int .u64 (d2 : Int))) := hide_ (by
    obtain ⟨o0, o1, o2, o3, -⟩ := (hA.alloc (.cells #[.int .u64 (0 : Int), .int .u64 (0 : Int), .int .u64 (0 : Int), .int .u64 (0 : Int)] 26)).quad hl
    obtain ⟨o4, o5, o6, o7, -⟩ := (hH.alloc (.cells #[.int .u64 (0 : Int), .int .u64 (0 : Int), .int .u64 (0 : Int), .int .u64 (0 : Int)] 26)).quad hm
    exact ⟨o0, o1, o2, o3, o4, o5, o6, o7⟩)
  have HZ := hide_ (AB.at0 w 26 [.int .u64 (0 : Int), .int .u64 (0 : Int), .int .u64 (0 : Int), .int .u64 (0 : Int)])
  have HB := hide_ (below1 w (.cells #[.int .u64 (0 : Int), .int .u64 (0 : Int), .int .u64 (0 : Int), .int .u64 (0 : Int)] 26))
  have g1 : (0 : Int) ≤ (k : Int) := by omega
  have g2 : (k : Int) < 24 := by omega
  unfold td at *
  clear hA hH hl hm ha hb hc hd ha2 hb2 hc2 hd2
  go_enter Try.func37, Try.ntmps37
  go_wp2_with fail
  generalize w.alloc (.cells #[.int .u64 (0 : Int), .int .u64 (0 : Int), .int .u64 (0 : Int), .int .u64 (0 : Int)] 26) = W at *
  obtain ⟨o0, o1, o2, o3, o4, o5, o6, o7⟩ := O.out
  go_region_held3 (fun w' => w'.cell? ⟨g, k * 4, none⟩ = some (.int .u64 (a : Int)) ∧ w'.cell? ⟨g, k * 4 + 1, none⟩ = some (.int .u64 (b : Int)) ∧ w'.cell? ⟨g, k * 4 + 2, none⟩ = some (.int .u64 (c : Int)) ∧ w'.cell? ⟨g, k * 4 + 3, none⟩ = some (.int .u64 (d : Int)) ∧ w'.cell? ⟨f, k * 4, none⟩ = some (.int .u64 (a2 : Int)) ∧ w'.cell? ⟨f, k * 4 + 1, none⟩ = some (.int .u64 (b2 : Int)) ∧ w'.cell? ⟨f, k * 4 + 2, none⟩ = some (.int .u64 (c2 : Int)) ∧ w'.cell? ⟨f, k * 4 + 3, none⟩ = some (.int .u64 (d2 : Int)) ∧ Room4 w' w.heap.size 26 ∧ Below w.heap.size w w')
    (first | (with_reducible exact keepA8R (by assumption) (by assumption)) | (with_reducible exact keepA8R' (by assumption) (Nat.le_refl _) (by dsimp only; omega) (by dsimp only; omega) (by dsimp only; omega) (by dsimp only; omega) (by dsimp only; omega) (by dsimp only; omega) (by dsimp only; omega) (by dsimp only; omega)) | (exact ⟨o0, o1, o2, o3, o4, o5, o6, o7, HZ.out.room, HB.out.drew⟩) | (exact ⟨o0, o1, o2, o3, o4, o5, o6, o7, HZ.out.room, HB.out⟩))
    (first | (go_at_call 38; refine (q1.out _).mono ?_; rintro e w4 ⟨rfl, b4⟩; have hS4 := keepA8R b4 (by assumption); obtain ⟨z0, z1, z2, z3, e0, e1, e2, e3, p0, p1, p2, p3⟩ := hS4.2.2.2.2.2.2.2.2.1.cells))
  all_goals
    have Z := hS4.2.2.2.2.2.2.2.2.1.fill (.int .u64 (m1 : Int)) (.int .u64 (m2 : Int)) (.int .u64 (m3 : Int)) (.int .u64 (m4 : Int))
    have bb := below_fill (g := w.heap.size) hS4.2.2.2.2.2.2.2.2.2 (Nat.le_refl _) (.int .u64 (m1 : Int)) (.int .u64 (m2 : Int)) (.int .u64 (m3 : Int)) (.int .u64 (m4 : Int))
    obtain ⟨h0, h1, h2, h3, -⟩ := Z.four
    clear hS4 e0 e1 e2 e3 p0 p1 p2 p3
    rename_i hH
    clear hH
    go_wp2_with fail
    exact bodyPost_ret (v := .agg #[.int .u64 (m1 : Int), .int .u64 (m2 : Int), .int .u64 (m3 : Int), .int .u64 (m4 : Int)]) (by simp [results, Try.results37, go_sem, h0, h1, h2, h3]) rfl ⟨rfl, bb⟩

set_option maxRecDepth 100000 in
set_option maxHeartbeats 2000000 in
theorem rafter_fn (l m : List Q4) (g f k a b c d a2 b2 c2 d2 : Nat) (w : World) (hk : k < 24) (hl : l[k]? = some (a, b, c, d)) (hm : m[k]? = some (a2, b2, c2, d2)) (ha : a < 18446744073709551616) (hb : b < 18446744073709551616) (hc : c < 18446744073709551616) (hd : d < 18446744073709551616) (ha2 : a2 < 18446744073709551616) (hb2 : b2 < 18446744073709551616) (hc2 : c2 < 18446744073709551616) (hd2 : d2 < 18446744073709551616) (hA : AB w g 29 (tdc l)) (hH : AB w f 28 (tdc m)) :
    Calls Try.prog 39 #[.int .i64 (k : Int), .pointer (some ⟨g, 0, none⟩), .pointer (some ⟨f, 0, none⟩)] w fun e w' => e = .returned (td (a &&& andn c c2 ||| a2 &&& c2) (b &&& andn d d2 ||| b2 &&& d2) (andn c c2 ||| c2) (andn d d2 ||| d2)) ∧ Below w.heap.size w w' := by
  have q1 := hide_ (fun w => rwover_any a b c d a2 b2 c2 d2 w ha hb hc hd ha2 hb2 hc2 hd2)
  generalize a &&& andn c c2 ||| a2 &&& c2 = m1 at *
  generalize b &&& andn d d2 ||| b2 &&& d2 = m2 at *
  generalize andn c c2 ||| c2 = m3 at *
  generalize andn d d2 ||| d2 = m4 at *
  have hg := hA.lt
  have hf := hH.lt
  have O : Hid ((w.alloc (.cells #[.int .u64 (0 : Int), .int .u64 (0 : Int), .int .u64 (0 : Int), .int .u64 (0 : Int)] 26)).cell? ⟨g, k * 4, none⟩ = some (.int .u64 (a : Int)) ∧ (w.alloc (.cells #[.int .u64 (0 : Int), .int .u64 (0 : Int), .int .u64 (0 : Int), .int .u64 (0 : Int)] 26)).cell? ⟨g, k * 4 + 1, none⟩ = some (.int .u64 (b : Int)) ∧ (w.alloc (.cells #[.int .u64 (0 : Int), .int .u64 (0 : Int), .int .u64 (0 : Int), .int .u64 (0 : Int)] 26)).cell? ⟨g, k * 4 + 2, none⟩ = some (.int .u64 (c : Int)) ∧ (w.alloc (.cells #[.int .u64 (0 : Int), .int .u64 (0 : Int), .int .u64 (0 : Int), .int .u64 (0 : Int)] 26)).cell? ⟨g, k * 4 + 3, none⟩ = some (.int .u64 (d : Int)) ∧ (w.alloc (.cells #[.int .u64 (0 : Int), .int .u64 (0 : Int), .int .u64 (0 : Int), .int .u64 (0 : Int)] 26)).cell? ⟨f, k * 4, none⟩ = some (.int .u64 (a2 : Int)) ∧ (w.alloc (.cells #[.int .u64 (0 : Int), .int .u64 (0 : Int), .int .u64 (0 : Int), .int .u64 (0 : Int)] 26)).cell? ⟨f, k * 4 + 1, none⟩ = some (.int .u64 (b2 : Int)) ∧ (w.alloc (.cells #[.int .u64 (0 : Int), .int .u64 (0 : Int), .int .u64 (0 : Int), .int .u64 (0 : Int)] 26)).cell? ⟨f, k * 4 + 2, none⟩ = some (.int .u64 (c2 : Int)) ∧ (w.alloc (.cells #[.int .u64 (0 : Int), .int .u64 (0 : Int), .int .u64 (0 : Int), .int .u64 (0 : Int)] 26)).cell? ⟨f, k * 4 + 3, none⟩ = some (.int .u64 (d2 : Int))) := hide_ (by
    obtain ⟨o0, o1, o2, o3, -⟩ := (hA.alloc (.cells #[.int .u64 (0 : Int), .int .u64 (0 : Int), .int .u64 (0 : Int), .int .u64 (0 : Int)] 26)).quad hl
    obtain ⟨o4, o5, o6, o7, -⟩ := (hH.alloc (.cells #[.int .u64 (0 : Int), .int .u64 (0 : Int), .int .u64 (0 : Int), .int .u64 (0 : Int)] 26)).quad hm
    exact ⟨o0, o1, o2, o3, o4, o5, o6, o7⟩)
  have HZ := hide_ (AB.at0 w 26 [.int .u64 (0 : Int), .int .u64 (0 : Int), .int .u64 (0 : Int), .int .u64 (0 : Int)])
  have HB := hide_ (below1 w (.cells #[.int .u64 (0 : Int), .int .u64 (0 : Int), .int .u64 (0 : Int), .int .u64 (0 : Int)] 26))
  have g1 : (0 : Int) ≤ (k : Int) := by omega
  have g2 : (k : Int) < 24 := by omega
  unfold td at *
  clear hA hH hl hm ha hb hc hd ha2 hb2 hc2 hd2
  go_enter Try.func39, Try.ntmps39
  go_wp2_with fail
  generalize w.alloc (.cells #[.int .u64 (0 : Int), .int .u64 (0 : Int), .int .u64 (0 : Int), .int .u64 (0 : Int)] 26) = W at *
  obtain ⟨o0, o1, o2, o3, o4, o5, o6, o7⟩ := O.out
  go_region_held3 (fun w' => w'.cell? ⟨g, k * 4, none⟩ = some (.int .u64 (a : Int)) ∧ w'.cell? ⟨g, k * 4 + 1, none⟩ = some (.int .u64 (b : Int)) ∧ w'.cell? ⟨g, k * 4 + 2, none⟩ = some (.int .u64 (c : Int)) ∧ w'.cell? ⟨g, k * 4 + 3, none⟩ = some (.int .u64 (d : Int)) ∧ w'.cell? ⟨f, k * 4, none⟩ = some (.int .u64 (a2 : Int)) ∧ w'.cell? ⟨f, k * 4 + 1, none⟩ = some (.int .u64 (b2 : Int)) ∧ w'.cell? ⟨f, k * 4 + 2, none⟩ = some (.int .u64 (c2 : Int)) ∧ w'.cell? ⟨f, k * 4 + 3, none⟩ = some (.int .u64 (d2 : Int)) ∧ Room4 w' w.heap.size 26 ∧ Below w.heap.size w w')
    (first | (with_reducible exact keepA8R (by assumption) (by assumption)) | (with_reducible exact keepA8R' (by assumption) (Nat.le_refl _) (by dsimp only; omega) (by dsimp only; omega) (by dsimp only; omega) (by dsimp only; omega) (by dsimp only; omega) (by dsimp only; omega) (by dsimp only; omega) (by dsimp only; omega)) | (exact ⟨o0, o1, o2, o3, o4, o5, o6, o7, HZ.out.room, HB.out.drew⟩) | (exact ⟨o0, o1, o2, o3, o4, o5, o6, o7, HZ.out.room, HB.out⟩))
    (first | (go_at_call 38; refine (q1.out _).mono ?_; rintro e w4 ⟨rfl, b4⟩; have hS4 := keepA8R b4 (by assumption); obtain ⟨z0, z1, z2, z3, e0, e1, e2, e3, p0, p1, p2, p3⟩ := hS4.2.2.2.2.2.2.2.2.1.cells))
  all_goals
    have Z := hS4.2.2.2.2.2.2.2.2.1.fill (.int .u64 (m1 : Int)) (.int .u64 (m2 : Int)) (.int .u64 (m3 : Int)) (.int .u64 (m4 : Int))
    have bb := below_fill (g := w.heap.size) hS4.2.2.2.2.2.2.2.2.2 (Nat.le_refl _) (.int .u64 (m1 : Int)) (.int .u64 (m2 : Int)) (.int .u64 (m3 : Int)) (.int .u64 (m4 : Int))
    obtain ⟨h0, h1, h2, h3, -⟩ := Z.four
    clear hS4 e0 e1 e2 e3 p0 p1 p2 p3
    rename_i hH
    clear hH
    go_wp2_with fail
    exact bodyPost_ret (v := .agg #[.int .u64 (m1 : Int), .int .u64 (m2 : Int), .int .u64 (m3 : Int), .int .u64 (m4 : Int)]) (by simp [results, Try.results39, go_sem, h0, h1, h2, h3]) rfl ⟨rfl, bb⟩

set_option maxRecDepth 100000 in
set_option maxHeartbeats 2000000 in
theorem rbefore_fn (l m : List Q4) (g f k a b c d a2 b2 c2 d2 : Nat) (w : World) (hk : k < 24) (hl : l[k]? = some (a, b, c, d)) (hm : m[k]? = some (a2, b2, c2, d2)) (ha : a < 18446744073709551616) (hb : b < 18446744073709551616) (hc : c < 18446744073709551616) (hd : d < 18446744073709551616) (ha2 : a2 < 18446744073709551616) (hb2 : b2 < 18446744073709551616) (hc2 : c2 < 18446744073709551616) (hd2 : d2 < 18446744073709551616) (hA : AB w g 29 (tdc l)) (hH : AB w f 28 (tdc m)) :
    Calls Try.prog 26 #[.int .i64 (k : Int), .pointer (some ⟨g, 0, none⟩), .pointer (some ⟨f, 0, none⟩)] w fun e w' => e = .returned (td (a &&& andn c c2) (b &&& andn d d2) (andn c c2) (andn d d2)) ∧ Below w.heap.size w w' := by
  have q1 := hide_ (fun w => rwout_any a b c d c2 d2 w ha hb hc hd hc2 hd2)
  generalize a &&& andn c c2 = m1 at *
  generalize b &&& andn d d2 = m2 at *
  generalize andn c c2 = m3 at *
  generalize andn d d2 = m4 at *
  have hg := hA.lt
  have hf := hH.lt
  have O : Hid ((w.alloc (.cells #[.int .u64 (0 : Int), .int .u64 (0 : Int), .int .u64 (0 : Int), .int .u64 (0 : Int)] 26)).cell? ⟨g, k * 4, none⟩ = some (.int .u64 (a : Int)) ∧ (w.alloc (.cells #[.int .u64 (0 : Int), .int .u64 (0 : Int), .int .u64 (0 : Int), .int .u64 (0 : Int)] 26)).cell? ⟨g, k * 4 + 1, none⟩ = some (.int .u64 (b : Int)) ∧ (w.alloc (.cells #[.int .u64 (0 : Int), .int .u64 (0 : Int), .int .u64 (0 : Int), .int .u64 (0 : Int)] 26)).cell? ⟨g, k * 4 + 2, none⟩ = some (.int .u64 (c : Int)) ∧ (w.alloc (.cells #[.int .u64 (0 : Int), .int .u64 (0 : Int), .int .u64 (0 : Int), .int .u64 (0 : Int)] 26)).cell? ⟨g, k * 4 + 3, none⟩ = some (.int .u64 (d : Int)) ∧ (w.alloc (.cells #[.int .u64 (0 : Int), .int .u64 (0 : Int), .int .u64 (0 : Int), .int .u64 (0 : Int)] 26)).cell? ⟨f, k * 4 + 2, none⟩ = some (.int .u64 (c2 : Int)) ∧ (w.alloc (.cells #[.int .u64 (0 : Int), .int .u64 (0 : Int), .int .u64 (0 : Int), .int .u64 (0 : Int)] 26)).cell? ⟨f, k * 4 + 3, none⟩ = some (.int .u64 (d2 : Int))) := hide_ (by
    obtain ⟨o0, o1, o2, o3, -⟩ := (hA.alloc (.cells #[.int .u64 (0 : Int), .int .u64 (0 : Int), .int .u64 (0 : Int), .int .u64 (0 : Int)] 26)).quad hl
    obtain ⟨o4, o5, o6, o7, -⟩ := (hH.alloc (.cells #[.int .u64 (0 : Int), .int .u64 (0 : Int), .int .u64 (0 : Int), .int .u64 (0 : Int)] 26)).quad hm
    exact ⟨o0, o1, o2, o3, o6, o7⟩)
  have HZ := hide_ (AB.at0 w 26 [.int .u64 (0 : Int), .int .u64 (0 : Int), .int .u64 (0 : Int), .int .u64 (0 : Int)])
  have HB := hide_ (below1 w (.cells #[.int .u64 (0 : Int), .int .u64 (0 : Int), .int .u64 (0 : Int), .int .u64 (0 : Int)] 26))
  have g1 : (0 : Int) ≤ (k : Int) := by omega
  have g2 : (k : Int) < 24 := by omega
  unfold td at *
  unfold wd at *
  clear hA hH hl hm ha hb hc hd ha2 hb2 hc2 hd2
  go_enter Try.func26, Try.ntmps26
  go_wp2_with fail
  generalize w.alloc (.cells #[.int .u64 (0 : Int), .int .u64 (0 : Int), .int .u64 (0 : Int), .int .u64 (0 : Int)] 26) = W at *
  obtain ⟨o0, o1, o2, o3, o4, o5⟩ := O.out
  go_region_held3 (fun w' => w'.cell? ⟨g, k * 4, none⟩ = some (.int .u64 (a : Int)) ∧ w'.cell? ⟨g, k * 4 + 1, none⟩ = some (.int .u64 (b : Int)) ∧ w'.cell? ⟨g, k * 4 + 2, none⟩ = some (.int .u64 (c : Int)) ∧ w'.cell? ⟨g, k * 4 + 3, none⟩ = some (.int .u64 (d : Int)) ∧ w'.cell? ⟨f, k * 4 + 2, none⟩ = some (.int .u64 (c2 : Int)) ∧ w'.cell? ⟨f, k * 4 + 3, none⟩ = some (.int .u64 (d2 : Int)) ∧ Room4 w' w.heap.size 26 ∧ Below w.heap.size w w')
    (first | (with_reducible exact kR6 (by assumption) (by assumption)) | (with_reducible exact kS6 (by assumption) (Nat.le_refl _) (by dsimp only; omega) (by dsimp only; omega) (by dsimp only; omega) (by dsimp only; omega) (by dsimp only; omega) (by dsimp only; omega)) | (exact ⟨o0, o1, o2, o3, o4, o5, HZ.out.room, HB.out.drew⟩) | (exact ⟨o0, o1, o2, o3, o4, o5, HZ.out.room, HB.out⟩))
    (first | (go_at_call 27; refine (q1.out _).mono ?_; rintro e w4 ⟨rfl, b4⟩; have hS4 := kR6 b4 (by assumption); obtain ⟨z0, z1, z2, z3, e0, e1, e2, e3, p0, p1, p2, p3⟩ := hS4.2.2.2.2.2.2.1.cells))
  all_goals
    have Z := hS4.2.2.2.2.2.2.1.fill (.int .u64 (m1 : Int)) (.int .u64 (m2 : Int)) (.int .u64 (m3 : Int)) (.int .u64 (m4 : Int))
    have bb := below_fill (g := w.heap.size) hS4.2.2.2.2.2.2.2 (Nat.le_refl _) (.int .u64 (m1 : Int)) (.int .u64 (m2 : Int)) (.int .u64 (m3 : Int)) (.int .u64 (m4 : Int))
    obtain ⟨h0, h1, h2, h3, -⟩ := Z.four
    clear hS4 e0 e1 e2 e3 p0 p1 p2 p3
    rename_i hH
    clear hH
    go_wp2_with fail
    exact bodyPost_ret (v := .agg #[.int .u64 (m1 : Int), .int .u64 (m2 : Int), .int .u64 (m3 : Int), .int .u64 (m4 : Int)]) (by simp [results, Try.results26, go_sem, h0, h1, h2, h3]) rfl ⟨rfl, bb⟩

set_option maxRecDepth 100000 in
set_option maxHeartbeats 2000000 in
theorem rclean_fn (l : List Q4) (g k a b c d : Nat) (w : World) (hk : k < 24) (hl : l[k]? = some (a, b, c, d)) (ha : a < 18446744073709551616) (hb : b < 18446744073709551616) (hc : c < 18446744073709551616) (hd : d < 18446744073709551616) (hA : AB w g 28 (tdc l)) :
    Calls Try.prog 40 #[.int .i64 (k : Int), .pointer (some ⟨g, 0, none⟩)] w fun e w' => e = .returned (td (a &&& c) (b &&& d) c d) ∧ Below w.heap.size w w' := by
  have q1 := hide_ (fun w => tclean_any a b c d w ha hb hc hd)
  generalize a &&& c = m1 at *
  generalize b &&& d = m2 at *
  obtain ⟨o0, o1, o2, o3, -⟩ := (hA.alloc (.cells #[.int .u64 (0 : Int), .int .u64 (0 : Int), .int .u64 (0 : Int), .int .u64 (0 : Int)] 26)).quad hl
  have HZ := hide_ (AB.at0 w 26 [.int .u64 (0 : Int), .int .u64 (0 : Int), .int .u64 (0 : Int), .int .u64 (0 : Int)])
  have HB := hide_ (below1 w (.cells #[.int .u64 (0 : Int), .int .u64 (0 : Int), .int .u64 (0 : Int), .int .u64 (0 : Int)] 26))
  have g1 : (0 : Int) ≤ (k : Int) := by omega
  have g2 : (k : Int) < 24 := by omega
  unfold td at *
  clear hA hl ha hb hc hd
  go_enter Try.func40, Try.ntmps40
  go_wp2_with (go_at_call 33; refine (q1.out _).mono ?_; rintro e w1 ⟨rfl, b1⟩; obtain ⟨s0, s1, s2, s3, s4, s5, s6, s7⟩ := (HZ.out.later b1).four)
  have Z := (HZ.out.later b1).room.fill (.int .u64 (m1 : Int)) (.int .u64 (m2 : Int)) (.int .u64 (c : Int)) (.int .u64 (d : Int))
  have B1 := HB.out.trans (b1.mono HB.out.size)
  have bb := below_fill (g := w.heap.size) B1 (Nat.le_refl _) (.int .u64 (m1 : Int)) (.int .u64 (m2 : Int)) (.int .u64 (c : Int)) (.int .u64 (d : Int))
  obtain ⟨h0, h1, h2, h3, -⟩ := Z.four
  exact bodyPost_ret (v := .agg #[.int .u64 (m1 : Int), .int .u64 (m2 : Int), .int .u64 (c : Int), .int .u64 (d : Int)]) (by simp [results, Try.results40, go_sem, h0, h1, h2, h3]) rfl ⟨rfl, bb⟩

set_option maxRecDepth 100000 in
set_option maxHeartbeats 2000000 in
theorem rset_fn (l : List Q4) (g f x y k a b c d a2 b2 c2 d2 : Nat) (i : Int) (w : World) (hk : k < 24) (hl : l[k]? = some (a, b, c, d)) (ha : a < 18446744073709551616) (hb : b < 18446744073709551616) (hc : c < 18446744073709551616) (hd : d < 18446744073709551616) (ha2 : a2 < 18446744073709551616) (hb2 : b2 < 18446744073709551616) (hc2 : c2 < 18446744073709551616) (hd2 : d2 < 18446744073709551616) (hI : AB w f 3 [.int .i64 i]) (hA : AB w g 28 (tdc l)) (hX : AB w x 24 [.int .u64 (a2 : Int), .int .u64 (b2 : Int)]) (hY : AB w y 24 [.int .u64 (c2 : Int), .int .u64 (d2 : Int)]) (hi : (k : Int) = i) :
    Calls Try.prog 42 #[.int .i64 (k : Int), .pointer (some ⟨f, 0, none⟩), .pointer (some ⟨g, 0, none⟩), .pointer (some ⟨x, 0, none⟩), .pointer (some ⟨y, 0, none⟩)] w fun e w' => e = .returned (td (a &&& andn c c2 ||| a2 &&& c2) (b &&& andn d d2 ||| b2 &&& d2) (andn c c2 ||| c2) (andn d d2 ||| d2)) ∧ Below w.heap.size w w' := by
  have q1 := hide_ (fun w => rwover_any a b c d a2 b2 c2 d2 w ha hb hc hd ha2 hb2 hc2 hd2)
  generalize a &&& andn c c2 ||| a2 &&& c2 = m1 at *
  generalize b &&& andn d d2 ||| b2 &&& d2 = m2 at *
  generalize andn c c2 ||| c2 = m3 at *
  generalize andn d d2 ||| d2 = m4 at *
  subst hi
  have hg := hA.lt
  have hx := hX.lt
  have hy := hY.lt
  have oi := ((hI.alloc (.cells #[.int .u64 (0 : Int), .int .u64 (0 : Int), .int .u64 (0 : Int), .int .u64 (0 : Int)] 26)).cell (j := 0) rfl).1
  have O : Hid ((w.alloc (.cells #[.int .u64 (0 : Int), .int .u64 (0 : Int), .int .u64 (0 : Int), .int .u64 (0 : Int)] 26)).cell? ⟨g, k * 4, none⟩ = some (.int .u64 (a : Int)) ∧ (w.alloc (.cells #[.int .u64 (0 : Int), .int .u64 (0 : Int), .int .u64 (0 : Int), .int .u64 (0 : Int)] 26)).cell? ⟨g, k * 4 + 1, none⟩ = some (.int .u64 (b : Int)) ∧ (w.alloc (.cells #[.int .u64 (0 : Int), .int .u64 (0 : Int), .int .u64 (0 : Int), .int .u64 (0 : Int)] 26)).cell? ⟨g, k * 4 + 2, none⟩ = some (.int .u64 (c : Int)) ∧ (w.alloc (.cells #[.int .u64 (0 : Int), .int .u64 (0 : Int), .int .u64 (0 : Int), .int .u64 (0 : Int)] 26)).cell? ⟨g, k * 4 + 3, none⟩ = some (.int .u64 (d : Int)) ∧ (w.alloc (.cells #[.int .u64 (0 : Int), .int .u64 (0 : Int), .int .u64 (0 : Int), .int .u64 (0 : Int)] 26)).cell? ⟨x, 0, none⟩ = some (.int .u64 (a2 : Int)) ∧ (w.alloc (.cells #[.int .u64 (0 : Int), .int .u64 (0 : Int), .int .u64 (0 : Int), .int .u64 (0 : Int)] 26)).cell? ⟨x, 1, none⟩ = some (.int .u64 (b2 : Int)) ∧ (w.alloc (.cells #[.int .u64 (0 : Int), .int .u64 (0 : Int), .int .u64 (0 : Int), .int .u64 (0 : Int)] 26)).cell? ⟨y, 0, none⟩ = some (.int .u64 (c2 : Int)) ∧ (w.alloc (.cells #[.int .u64 (0 : Int), .int .u64 (0 : Int), .int .u64 (0 : Int), .int .u64 (0 : Int)] 26)).cell? ⟨y, 1, none⟩ = some (.int .u64 (d2 : Int))) := hide_ (by
    obtain ⟨o0, o1, o2, o3, -⟩ := (hA.alloc (.cells #[.int .u64 (0 : Int), .int .u64 (0 : Int), .int .u64 (0 : Int), .int .u64 (0 : Int)] 26)).quad hl
    obtain ⟨o4, o5, -⟩ := (hX.alloc (.cells #[.int .u64 (0 : Int), .int .u64 (0 : Int), .int .u64 (0 : Int), .int .u64 (0 : Int)] 26)).two
    obtain ⟨o6, o7, -⟩ := (hY.alloc (.cells #[.int .u64 (0 : Int), .int .u64 (0 : Int), .int .u64 (0 : Int), .int .u64 (0 : Int)] 26)).two
    exact ⟨o0, o1, o2, o3, o4, o5, o6, o7⟩)
  have HZ := hide_ (AB.at0 w 26 [.int .u64 (0 : Int), .int .u64 (0 : Int), .int .u64 (0 : Int), .int .u64 (0 : Int)])
  have HB := hide_ (below1 w (.cells #[.int .u64 (0 : Int), .int .u64 (0 : Int), .int .u64 (0 : Int), .int .u64 (0 : Int)] 26))
  have g1 : (0 : Int) ≤ (k : Int) := by omega
  have g2 : (k : Int) < 24 := by omega
  unfold td at *
  clear hA hX hY hI hl ha hb hc hd ha2 hb2 hc2 hd2
  go_enter Try.func42, Try.ntmps42
  go_wp2_with fail
  generalize w.alloc (.cells #[.int .u64 (0 : Int), .int .u64 (0 : Int), .int .u64 (0 : Int), .int .u64 (0 : Int)] 26) = W at *
  obtain ⟨o0, o1, o2, o3, o4, o5, o6, o7⟩ := O.out
  go_region_held3 (fun w' => w'.cell? ⟨g, k * 4, none⟩ = some (.int .u64 (a : Int)) ∧ w'.cell? ⟨g, k * 4 + 1, none⟩ = some (.int .u64 (b : Int)) ∧ w'.cell? ⟨g, k * 4 + 2, none⟩ = some (.int .u64 (c : Int)) ∧ w'.cell? ⟨g, k * 4 + 3, none⟩ = some (.int .u64 (d : Int)) ∧ w'.cell? ⟨x, 0, none⟩ = some (.int .u64 (a2 : Int)) ∧ w'.cell? ⟨x, 1, none⟩ = some (.int .u64 (b2 : Int)) ∧ w'.cell? ⟨y, 0, none⟩ = some (.int .u64 (c2 : Int)) ∧ w'.cell? ⟨y, 1, none⟩ = some (.int .u64 (d2 : Int)) ∧ Room4 w' w.heap.size 26 ∧ Below w.heap.size w w')
    (first | (with_reducible exact keepA8R (by assumption) (by assumption)) | (with_reducible exact keepA8R' (by assumption) (Nat.le_refl _) (by dsimp only; omega) (by dsimp only; omega) (by dsimp only; omega) (by dsimp only; omega) (by dsimp only; omega) (by dsimp only; omega) (by dsimp only; omega) (by dsimp only; omega)) | (exact ⟨o0, o1, o2, o3, o4, o5, o6, o7, HZ.out.room, HB.out.drew⟩) | (exact ⟨o0, o1, o2, o3, o4, o5, o6, o7, HZ.out.room, HB.out⟩))
    (first | (go_at_call 38; refine (q1.out _).mono ?_; rintro e w4 ⟨rfl, b4⟩; have hS4 := keepA8R b4 (by assumption); obtain ⟨z0, z1, z2, z3, e0, e1, e2, e3, p0, p1, p2, p3⟩ := hS4.2.2.2.2.2.2.2.2.1.cells))
  all_goals
    have Z := hS4.2.2.2.2.2.2.2.2.1.fill (.int .u64 (m1 : Int)) (.int .u64 (m2 : Int)) (.int .u64 (m3 : Int)) (.int .u64 (m4 : Int))
    have bb := below_fill (g := w.heap.size) hS4.2.2.2.2.2.2.2.2.2 (Nat.le_refl _) (.int .u64 (m1 : Int)) (.int .u64 (m2 : Int)) (.int .u64 (m3 : Int)) (.int .u64 (m4 : Int))
    obtain ⟨h0, h1, h2, h3, -⟩ := Z.four
    clear hS4 e0 e1 e2 e3 p0 p1 p2 p3
    rename_i hH
    clear hH
    go_wp2_with fail
    exact bodyPost_ret (v := .agg #[.int .u64 (m1 : Int), .int .u64 (m2 : Int), .int .u64 (m3 : Int), .int .u64 (m4 : Int)]) (by simp [results, Try.results42, go_sem, h0, h1, h2, h3]) rfl ⟨rfl, bb⟩

set_option maxRecDepth 100000 in
set_option maxHeartbeats 2000000 in
theorem rset_fn2 (l : List Q4) (g f x y k a b c d a2 b2 c2 d2 : Nat) (i : Int) (w : World) (hk : k < 24) (hl : l[k]? = some (a, b, c, d)) (ha : a < 18446744073709551616) (hb : b < 18446744073709551616) (hc : c < 18446744073709551616) (hd : d < 18446744073709551616) (ha2 : a2 < 18446744073709551616) (hb2 : b2 < 18446744073709551616) (hc2 : c2 < 18446744073709551616) (hd2 : d2 < 18446744073709551616) (hI : AB w f 3 [.int .i64 i]) (hA : AB w g 28 (tdc l)) (hX : AB w x 24 [.int .u64 (a2 : Int), .int .u64 (b2 : Int)]) (hY : AB w y 24 [.int .u64 (c2 : Int), .int .u64 (d2 : Int)]) (hi : ¬ (k : Int) = i) :
    Calls Try.prog 42 #[.int .i64 (k : Int), .pointer (some ⟨f, 0, none⟩), .pointer (some ⟨g, 0, none⟩), .pointer (some ⟨x, 0, none⟩), .pointer (some ⟨y, 0, none⟩)] w fun e w' => e = .returned (td (a &&& c) (b &&& d) (c) (d)) ∧ Below w.heap.size w w' := by
  have q1 := hide_ (fun w => tclean_any a b c d w ha hb hc hd)
  generalize a &&& c = m1 at *
  generalize b &&& d = m2 at *
  obtain ⟨o0, o1, o2, o3, -⟩ := (hA.alloc (.cells #[.int .u64 (0 : Int), .int .u64 (0 : Int), .int .u64 (0 : Int), .int .u64 (0 : Int)] 26)).quad hl
  have oi := ((hI.alloc (.cells #[.int .u64 (0 : Int), .int .u64 (0 : Int), .int .u64 (0 : Int), .int .u64 (0 : Int)] 26)).cell (j := 0) rfl).1
  have HZ := hide_ (AB.at0 w 26 [.int .u64 (0 : Int), .int .u64 (0 : Int), .int .u64 (0 : Int), .int .u64 (0 : Int)])
  have HB := hide_ (below1 w (.cells #[.int .u64 (0 : Int), .int .u64 (0 : Int), .int .u64 (0 : Int), .int .u64 (0 : Int)] 26))
  have g1 : (0 : Int) ≤ (k : Int) := by omega
  have g2 : (k : Int) < 24 := by omega
  unfold td at *
  clear hA hl hX hY hI ha hb hc hd ha2 hb2 hc2 hd2
  go_enter Try.func42, Try.ntmps42
  go_wp2_with (go_at_call 33; refine (q1.out _).mono ?_; rintro e w1 ⟨rfl, b1⟩; obtain ⟨s0, s1, s2, s3, s4, s5, s6, s7⟩ := (HZ.out.later b1).four)
  have Z := (HZ.out.later b1).room.fill (.int .u64 (m1 : Int)) (.int .u64 (m2 : Int)) (.int .u64 (c : Int)) (.int .u64 (d : Int))
  have B1 := HB.out.trans (b1.mono HB.out.size)
  have bb := below_fill (g := w.heap.size) B1 (Nat.le_refl _) (.int .u64 (m1 : Int)) (.int .u64 (m2 : Int)) (.int .u64 (c : Int)) (.int .u64 (d : Int))
  obtain ⟨h0, h1, h2, h3, -⟩ := Z.four
  exact bodyPost_ret (v := .agg #[.int .u64 (m1 : Int), .int .u64 (m2 : Int), .int .u64 (c : Int), .int .u64 (d : Int)]) (by simp [results, Try.results42, go_sem, h0, h1, h2, h3]) rfl ⟨rfl, bb⟩


end Go.Proofs.Ytlincickgleddaa
