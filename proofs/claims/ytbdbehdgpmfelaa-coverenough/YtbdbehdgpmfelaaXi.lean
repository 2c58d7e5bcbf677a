import Derived.Test.YtbdbehdgpmfelaaProg
import Derived.Test.YtbdbehdgpmfelaaXa
import Derived.Test.YtbdbehdgpmfelaaXb
import Derived.Test.YtbdbehdgpmfelaaXc
import Derived.Test.YtbdbehdgpmfelaaXd
import Derived.Test.YtbdbehdgpmfelaaXe
import Derived.Test.YtbdbehdgpmfelaaXf
import Derived.Test.YtbdbehdgpmfelaaXh
import Derived.Below
import Derived.BigQuiet
import Derived.BigRegion
import Derived.ChangeAlike
import Derived.ChangeKeysEq
import Derived.ChangeSame
import Derived.DataElems
import Derived.Deep.MidRow
import Derived.Deep.QuietTactic
import Derived.Deep.RegionHeld
import Derived.Deep.RegionHeld3
import Derived.Deep.RegionLaw
import Derived.Deep.RegionLawGrows
import Derived.Deep.RegionWith
import Derived.Deep.WholeRow
import Derived.Great.BuildSlice
import Derived.Handy
import Derived.Laws.AppendOwn
import Derived.Laws.AppendOwnNone
import Derived.Laws.BitsAllLaws
import Derived.Laws.BitsLemmas
import Derived.Laws.CopyOwn
import Derived.Laws.OwnMore
import Derived.Laws.Rows
import Derived.Laws.StructEq
import Derived.Laws.Tables
import Derived.Lib.BitFns
import Derived.Lib.SmallJoins
import Derived.OpenShut
import Derived.ProofKit
import Derived.RegionTactic
import Derived.WalkKit
import Derived.WalkLawsBesides
import Derived.WalkSmall
import Derived.WalkSpells
import Derived.WideShapes
namespace Go.Proofs.Ytbdbehdgpmfelaa
section
open Go Go.RowKit
set_option linter.unusedVariables false
set_option linter.unusedSimpArgs false

/-- a cube: 24 terns -/
def isC (l : List Q4) : Prop := l.length = 24 ∧ ∀ p ∈ l, p.1 < 18446744073709551616 ∧ p.2.1 < 18446744073709551616 ∧ p.2.2.1 < 18446744073709551616 ∧ p.2.2.2 < 18446744073709551616

def cv (l : List Q4) : Value := .agg (tdc l).toArray

theorem isC.get {l : List Q4} (h : isC l) {k : Nat} (hk : k < 24) : ∃ a b c d, l[k]? = some (a, b, c, d) ∧ a < 18446744073709551616 ∧ b < 18446744073709551616 ∧ c < 18446744073709551616 ∧ d < 18446744073709551616 := by
  have hk' : k < l.length := by rw [h.1]; exact hk
  obtain ⟨h1, h2, h3, h4⟩ := h.2 l[k] (List.getElem_mem hk')
  exact ⟨l[k].1, l[k].2.1, l[k].2.2.1, l[k].2.2.2, by rw [List.getElem?_eq_getElem hk'], h1, h2, h3, h4⟩

theorem AB.quad {w : World} {g k : Nat} {ty : TypeId} {l : List Q4} {a b c d : Nat} (h : AB w g ty (tdc l)) (hk : l[k]? = some (a, b, c, d)) :
    w.cell? ⟨g, k * 4, none⟩ = some (.int .u64 (a : Int)) ∧ w.cell? ⟨g, k * 4 + 1, none⟩ = some (.int .u64 (b : Int)) ∧ w.cell? ⟨g, k * 4 + 2, none⟩ = some (.int .u64 (c : Int)) ∧ w.cell? ⟨g, k * 4 + 3, none⟩ = some (.int .u64 (d : Int)) ∧ w.frozen? ⟨g, k * 4, none⟩ = false ∧ w.frozen? ⟨g, k * 4 + 1, none⟩ = false ∧ w.frozen? ⟨g, k * 4 + 2, none⟩ = false ∧ w.frozen? ⟨g, k * 4 + 3, none⟩ = false := by
  obtain ⟨h0, h1, h2, h3⟩ := tdc_at l k (a, b, c, d) hk
  exact ⟨(h.cell h0).1, (h.cell h1).1, (h.cell h2).1, (h.cell h3).1, (h.cell h0).2, (h.cell h1).2, (h.cell h2).2, (h.cell h3).2⟩

theorem AB.pair {w : World} {g k : Nat} {ty : TypeId} {l : List (Nat × Nat)} {x y : Nat} (h : AB w g ty (wdc l)) (hk : l[k]? = some (x, y)) :
    w.cell? ⟨g, k * 2, none⟩ = some (.int .u64 (x : Int)) ∧ w.cell? ⟨g, k * 2 + 1, none⟩ = some (.int .u64 (y : Int)) ∧ w.frozen? ⟨g, k * 2, none⟩ = false ∧ w.frozen? ⟨g, k * 2 + 1, none⟩ = false := by
  obtain ⟨h0, h1⟩ := wdc_at l k (x, y) hk
  exact ⟨(h.cell h0).1, (h.cell h1).1, (h.cell h0).2, (h.cell h1).2⟩

set_option maxRecDepth 100000 in
set_option maxHeartbeats 1000000 in
theorem chas_fn (l : List Q4) (m : List (Nat × Nat)) (g f k a b c d x y : Nat) (w : World) (hk : k < 24) (hl : l[k]? = some (a, b, c, d)) (hm : m[k]? = some (x, y)) (ha : a < 18446744073709551616) (hb : b < 18446744073709551616) (hc : c < 18446744073709551616) (hd : d < 18446744073709551616) (hx : x < 18446744073709551616) (hy : y < 18446744073709551616) (hA : AB w g 28 (tdc l)) (hH : AB w f 33 (wdc m)) :
    Calls Try.prog 28 #[.int .i64 (k : Int), .pointer (some ⟨g, 0, none⟩), .pointer (some ⟨f, 0, none⟩)] w fun e w' => e = .returned (.bool (thz a b c d x y)) ∧ Below w.heap.size w w' := by
  have q1 := hide_ (fun w => thas_z a b c d x y w ha hb hc hd hx hy)
  generalize thz a b c d x y = z at *
  obtain ⟨o0, o1, o2, o3, -⟩ := hA.quad hl
  obtain ⟨o4, o5, -⟩ := hH.pair hm
  have g1 : (0 : Int) ≤ (k : Int) := by omega
  have g2 : (k : Int) < 24 := by omega
  unfold td at *
  unfold wd at *
  clear hA hH hl hm ha hb hc hd hx hy
  go_enter Try.func28, Try.ntmps28
  go_wp2_with fail
  go_region_held3 (fun w' => w'.cell? ⟨g, k * 4, none⟩ = some (.int .u64 (a : Int)) ∧ w'.cell? ⟨g, k * 4 + 1, none⟩ = some (.int .u64 (b : Int)) ∧ w'.cell? ⟨g, k * 4 + 2, none⟩ = some (.int .u64 (c : Int)) ∧ w'.cell? ⟨g, k * 4 + 3, none⟩ = some (.int .u64 (d : Int)) ∧ w'.cell? ⟨f, k * 2, none⟩ = some (.int .u64 (x : Int)) ∧ w'.cell? ⟨f, k * 2 + 1, none⟩ = some (.int .u64 (y : Int)) ∧ Below w.heap.size w w')
    (first | (with_reducible exact keepA6 (by assumption) (by assumption)) | (exact ⟨o0, o1, o2, o3, o4, o5, (Below.refl _ _).drew⟩) | (exact ⟨o0, o1, o2, o3, o4, o5, Below.refl _ _⟩))
    (first | (go_at_call 29; refine (q1.out _).mono ?_; rintro e w' ⟨rfl, hb⟩))
  rename_i hH
  have bel := hH.2.2.2.2.2.2
  clear hH
  go_wp2_with fail
  go_ret
  exact ⟨rfl, bel⟩

set_option maxRecDepth 100000 in
set_option maxHeartbeats 1000000 in
theorem cwithin_fn (l m : List Q4) (g f k a b c d a2 b2 c2 d2 : Nat) (w : World) (hk : k < 24) (hl : l[k]? = some (a, b, c, d)) (hm : m[k]? = some (a2, b2, c2, d2)) (ha : a < 18446744073709551616) (hb : b < 18446744073709551616) (hc : c < 18446744073709551616) (hd : d < 18446744073709551616) (ha2 : a2 < 18446744073709551616) (hb2 : b2 < 18446744073709551616) (hc2 : c2 < 18446744073709551616) (hd2 : d2 < 18446744073709551616) (hA : AB w g 28 (tdc l)) (hH : AB w f 28 (tdc m)) :
    Calls Try.prog 66 #[.int .i64 (k : Int), .pointer (some ⟨g, 0, none⟩), .pointer (some ⟨f, 0, none⟩)] w fun e w' => e = .returned (.bool (twz a b c d a2 b2 c2 d2)) ∧ Below w.heap.size w w' := by
  have q1 := hide_ (fun w => twithin_z a b c d a2 b2 c2 d2 w ha hb hc hd ha2 hb2 hc2 hd2)
  generalize twz a b c d a2 b2 c2 d2 = z at *
  obtain ⟨o0, o1, o2, o3, -⟩ := hA.quad hl
  obtain ⟨o4, o5, o6, o7, -⟩ := hH.quad hm
  have g1 : (0 : Int) ≤ (k : Int) := by omega
  have g2 : (k : Int) < 24 := by omega
  unfold td at *
  clear hA hH hl hm ha hb hc hd ha2 hb2 hc2 hd2
  go_enter Try.func66, Try.ntmps66
  go_wp2_with fail
  go_region_held3 (fun w' => w'.cell? ⟨g, k * 4, none⟩ = some (.int .u64 (a : Int)) ∧ w'.cell? ⟨g, k * 4 + 1, none⟩ = some (.int .u64 (b : Int)) ∧ w'.cell? ⟨g, k * 4 + 2, none⟩ = some (.int .u64 (c : Int)) ∧ w'.cell? ⟨g, k * 4 + 3, none⟩ = some (.int .u64 (d : Int)) ∧ w'.cell? ⟨f, k * 4, none⟩ = some (.int .u64 (a2 : Int)) ∧ w'.cell? ⟨f, k * 4 + 1, none⟩ = some (.int .u64 (b2 : Int)) ∧ w'.cell? ⟨f, k * 4 + 2, none⟩ = some (.int .u64 (c2 : Int)) ∧ w'.cell? ⟨f, k * 4 + 3, none⟩ = some (.int .u64 (d2 : Int)) ∧ Below w.heap.size w w')
    (first | (with_reducible exact keepA8 (by assumption) (by assumption)) | (exact ⟨o0, o1, o2, o3, o4, o5, o6, o7, (Below.refl _ _).drew⟩) | (exact ⟨o0, o1, o2, o3, o4, o5, o6, o7, Below.refl _ _⟩))
    (first | (go_at_call 67; refine (q1.out _).mono ?_; rintro e w' ⟨rfl, hb⟩))
  rename_i hH
  have bel := hH.2.2.2.2.2.2.2.2
  clear hH
  go_wp2_with fail
  go_ret
  exact ⟨rfl, bel⟩

set_option maxRecDepth 100000 in
set_option maxHeartbeats 2000000 in
theorem cmeet_fn (l m : List Q4) (g f k a b c d a2 b2 c2 d2 : Nat) (w : World) (hk : k < 24) (hl : l[k]? = some (a, b, c, d)) (hm : m[k]? = some (a2, b2, c2, d2)) (ha : a < 18446744073709551616) (hb : b < 18446744073709551616) (hc : c < 18446744073709551616) (hd : d < 18446744073709551616) (ha2 : a2 < 18446744073709551616) (hb2 : b2 < 18446744073709551616) (hc2 : c2 < 18446744073709551616) (hd2 : d2 < 18446744073709551616) (hA : AB w g 28 (tdc l)) (hH : AB w f 28 (tdc m)) :
    Calls Try.prog 39 #[.int .i64 (k : Int), .pointer (some ⟨g, 0, none⟩), .pointer (some ⟨f, 0, none⟩)] w fun e w' => e = .returned (.tuple #[td (mz (mok a b c d a2 b2 c2 d2) (a &&& c ||| a2 &&& c2)) (mz (mok a b c d a2 b2 c2 d2) (b &&& d ||| b2 &&& d2)) (mz (mok a b c d a2 b2 c2 d2) (c ||| c2)) (mz (mok a b c d a2 b2 c2 d2) (d ||| d2)), .bool (mok a b c d a2 b2 c2 d2)]) ∧ Below w.heap.size w w' := by
  have q1 := hide_ (fun w => tmeet_ok a b c d a2 b2 c2 d2 w ha hb hc hd ha2 hb2 hc2 hd2)
  generalize mz (mok a b c d a2 b2 c2 d2) (a &&& c ||| a2 &&& c2) = m1 at *
  generalize mz (mok a b c d a2 b2 c2 d2) (b &&& d ||| b2 &&& d2) = m2 at *
  generalize mz (mok a b c d a2 b2 c2 d2) (c ||| c2) = m3 at *
  generalize mz (mok a b c d a2 b2 c2 d2) (d ||| d2) = m4 at *
  generalize mok a b c d a2 b2 c2 d2 = z at *
  have hg := hA.lt
  have hf := hH.lt
  have O : Hid ((w.alloc (.cells #[.int .u64 (0 : Int), .int .u64 (0 : Int), .int .u64 (0 : Int), .int .u64 (0 : Int)] 26)).cell? ⟨g, k * 4, none⟩ = some (.int .u64 (a : Int)) ∧ (w.alloc (.cells #[.int .u64 (0 : Int), .int .u64 (0 : Int), .int .u64 (0 : Int), .int .u64 (0 : Int)] 26)).cell? ⟨g, k * 4 + 1, none⟩ = some (.int .u64 (b : Int)) ∧ (w.alloc (.cells #[.int .u64 (0 : Int), .int .u64 (0 : Int), .int .u64 (0 : Int), .int .u64 (0 : Int)] 26)).cell? ⟨g, k * 4 + 2, none⟩ = some (.int .u64 (c : Int)) ∧ (w.alloc (.cells #[.int .u64 (0 : Int), .int .u64 (0 : Int), .int .u64 (0 : Int), .int .u64 (0 : Int)] 26)).cell? ⟨g, k * 4 + 3, none⟩ = some (.int .u64 (d : Int)) ∧ (w.alloc (.cells #[.int .u64 (0 : Int), .int .u64 (0 : Int), .int .u64 (0 : Int), .int .u64 (0 : Int)] 26)).cell? ⟨f, k * 4, none⟩ = some (.int .u64 (a2 : Int)) ∧ (w.alloc (.cells #[.int .u64 (0 : Int), .int .u64 (0 : Int), .int .u64 (0 : Int), .int .u64 (0 : Int)] 26)).cell? ⟨f, k * 4 + 1, none⟩ = some (.int .u64 (b2 : Int)) ∧ (w.alloc (.cells #[.int .u64 (0 : Int), .int .u64 (0 : Int), .int .u64 (0 : Int), .int .u64 (0 : Int)] 26)).cell? ⟨f, k * 4 + 2, none⟩ = some (.int .u64 (c2 : Int)) ∧ (w.alloc (.cells #[.int .u64 (0 : Int), .int .u64 (0 : Int), .int .u64 (0 : Int), .int .u64 (0 : Int)] 26)).cell? ⟨f, k * 4 + 3, none⟩ = some (.int .u64 (d2 : Int))) := hide_ (by
    obtain ⟨o0, o1, o2, o3, -⟩ := (hA.alloc (.cells #[.int .u64 (0 : Int), .int .u64 (0 : Int), .int .u64 (0 : Int), .int .u64 (0 : Int)] 26)).quad hl
    obtain ⟨o4, o5, o6, o7, -⟩ := (hH.alloc (.cells #[.int .u64 (0 : Int), .int .u64 (0 : Int), .int .u64 (0 : Int), .int .u64 (0 : Int)] 26)).quad hm
    exact ⟨o0, o1, o2, o3, o4, o5, o6, o7⟩)
  have HZ := hide_ (AB.at0 w 26 [.int .u64 (0 : Int), .int .u64 (0 : Int), .int .u64 (0 : Int), .int .u64 (0 : Int)])
  have HB := hide_ (below1 w (.cells #[.int .u64 (0 : Int), .int .u64 (0 : Int), .int .u64 (0 : Int), .int .u64 (0 : Int)] 26))
  have g1 : (0 : Int) ≤ (k : Int) := by omega
  have g2 : (k : Int) < 24 := by omega
  unfold td at *
  clear hA hH hl hm ha hb hc hd ha2 hb2 hc2 hd2
  go_enter Try.func39, Try.ntmps39
  go_wp2_with fail
  generalize w.alloc (.cells #[.int .u64 (0 : Int), .int .u64 (0 : Int), .int .u64 (0 : Int), .int .u64 (0 : Int)] 26) = W at *
  obtain ⟨o0, o1, o2, o3, o4, o5, o6, o7⟩ := O.out
  go_region_held3 (fun w' => w'.cell? ⟨g, k * 4, none⟩ = some (.int .u64 (a : Int)) ∧ w'.cell? ⟨g, k * 4 + 1, none⟩ = some (.int .u64 (b : Int)) ∧ w'.cell? ⟨g, k * 4 + 2, none⟩ = some (.int .u64 (c : Int)) ∧ w'.cell? ⟨g, k * 4 + 3, none⟩ = some (.int .u64 (d : Int)) ∧ w'.cell? ⟨f, k * 4, none⟩ = some (.int .u64 (a2 : Int)) ∧ w'.cell? ⟨f, k * 4 + 1, none⟩ = some (.int .u64 (b2 : Int)) ∧ w'.cell? ⟨f, k * 4 + 2, none⟩ = some (.int .u64 (c2 : Int)) ∧ w'.cell? ⟨f, k * 4 + 3, none⟩ = some (.int .u64 (d2 : Int)) ∧ Room4 w' w.heap.size 26 ∧ Below w.heap.size w w')
    (first | (with_reducible exact keepA8R (by assumption) (by assumption)) | (with_reducible exact keepA8R' (by assumption) (Nat.le_refl _) (by dsimp only; omega) (by dsimp only; omega) (by dsimp only; omega) (by dsimp only; omega) (by dsimp only; omega) (by dsimp only; omega) (by dsimp only; omega) (by dsimp only; omega)) | (exact ⟨o0, o1, o2, o3, o4, o5, o6, o7, HZ.out.room, HB.out.drew⟩) | (exact ⟨o0, o1, o2, o3, o4, o5, o6, o7, HZ.out.room, HB.out⟩))
    (first | (go_at_call 40; refine (q1.out _).mono ?_; rintro e w4 ⟨rfl, b4⟩; have hS4 := keepA8R b4 (by assumption); obtain ⟨z0, z1, z2, z3, e0, e1, e2, e3, p0, p1, p2, p3⟩ := hS4.2.2.2.2.2.2.2.2.1.cells))
  all_goals
    have Z := hS4.2.2.2.2.2.2.2.2.1.fill (.int .u64 (m1 : Int)) (.int .u64 (m2 : Int)) (.int .u64 (m3 : Int)) (.int .u64 (m4 : Int))
    have bb := below_fill (g := w.heap.size) hS4.2.2.2.2.2.2.2.2.2 (Nat.le_refl _) (.int .u64 (m1 : Int)) (.int .u64 (m2 : Int)) (.int .u64 (m3 : Int)) (.int .u64 (m4 : Int))
    obtain ⟨h0, h1, h2, h3, -⟩ := Z.four
    clear hS4 e0 e1 e2 e3 p0 p1 p2 p3
    rename_i hH
    clear hH
    go_wp2_with fail
    exact bodyPost_ret (v := .tuple #[.agg #[.int .u64 (m1 : Int), .int .u64 (m2 : Int), .int .u64 (m3 : Int), .int .u64 (m4 : Int)], .bool z]) (by simp [results, Try.results39, go_sem, h0, h1, h2, h3]) rfl ⟨rfl, bb⟩

set_option maxRecDepth 100000 in
set_option maxHeartbeats 1000000 in
theorem cclean_fn (l : List Q4) (g k a b c d : Nat) (w : World) (hk : k < 24) (hl : l[k]? = some (a, b, c, d)) (ha : a < 18446744073709551616) (hb : b < 18446744073709551616) (hc : c < 18446744073709551616) (hd : d < 18446744073709551616) (hA : AB w g 28 (tdc l)) :
    Calls Try.prog 68 #[.int .i64 (k : Int), .pointer (some ⟨g, 0, none⟩)] w fun e w' => e = .returned (.tuple #[td (a &&& c) (b &&& d) c d, .bool true]) ∧ Below w.heap.size w w' := by
  have q1 := hide_ (fun w => tclean_any a b c d w ha hb hc hd)
  generalize a &&& c = m1 at *
  generalize b &&& d = m2 at *
  obtain ⟨o0, o1, o2, o3, -⟩ := (hA.alloc (.cells #[.int .u64 (0 : Int), .int .u64 (0 : Int), .int .u64 (0 : Int), .int .u64 (0 : Int)] 26)).quad hl
  have HZ := hide_ (AB.at0 w 26 [.int .u64 (0 : Int), .int .u64 (0 : Int), .int .u64 (0 : Int), .int .u64 (0 : Int)])
  have HB := hide_ (below1 w (.cells #[.int .u64 (0 : Int), .int .u64 (0 : Int), .int .u64 (0 : Int), .int .u64 (0 : Int)] 26))
  have g1 : (0 : Int) ≤ (k : Int) := by omega
  have g2 : (k : Int) < 24 := by omega
  unfold td at *
  clear hA hl ha hb hc hd
  go_enter Try.func68, Try.ntmps68
  go_wp2_with (go_at_call 61; refine (q1.out _).mono ?_; rintro e w1 ⟨rfl, b1⟩; obtain ⟨s0, s1, s2, s3, s4, s5, s6, s7⟩ := (HZ.out.later b1).four)
  have Z := (HZ.out.later b1).room.fill (.int .u64 (m1 : Int)) (.int .u64 (m2 : Int)) (.int .u64 (c : Int)) (.int .u64 (d : Int))
  have B1 := HB.out.trans (b1.mono HB.out.size)
  have bb := below_fill (g := w.heap.size) B1 (Nat.le_refl _) (.int .u64 (m1 : Int)) (.int .u64 (m2 : Int)) (.int .u64 (c : Int)) (.int .u64 (d : Int))
  obtain ⟨h0, h1, h2, h3, -⟩ := Z.four
  exact bodyPost_ret (v := .tuple #[.agg #[.int .u64 (m1 : Int), .int .u64 (m2 : Int), .int .u64 (c : Int), .int .u64 (d : Int)], .bool true]) (by simp [results, Try.results68, go_sem, h0, h1, h2, h3]) rfl ⟨rfl, bb⟩
end

section
open Go Go.RowKit
set_option linter.unusedVariables false
set_option linter.unusedSimpArgs false

def allB (p : Nat → Bool) (n : Nat) : Bool := (List.range n).all p

theorem allB_succ (p : Nat → Bool) (n : Nat) : allB p (n + 1) = (allB p n && p n) := by
  unfold allB; rw [List.range_succ, List.all_append]; simp

theorem allB_false {p : Nat → Bool} {k n : Nat} (hk : k < n) (h : p k = false) : allB p n = false := by
  rw [Bool.eq_false_iff]
  intro e
  unfold allB at e
  rw [List.all_eq_true] at e
  have := e k (List.mem_range.2 hk)
  rw [h] at this
  cases this

set_option maxRecDepth 100000 in
set_option maxHeartbeats 1000000 in
theorem every_has (v0 v1 : Value) (p : Nat → Bool) (w : World) (hC : ∀ k : Nat, k < 24 → ∀ W, Below w.heap.size w W → Calls Try.prog 28 #[.int .i64 (k : Int), v0, v1] W fun e W' => e = .returned (.bool (p k)) ∧ Below W.heap.size W W') :
    Calls Try.prog 27 #[.func (.func 28) #[] #[v0, v1]] w fun e w' => e = .returned (.bool (allB p 24)) ∧ Below w.heap.size w w' := by
  have HC := hide_ hC
  clear hC
  obtain ⟨z, hz⟩ : ∃ z, allB p 24 = z := ⟨_, rfl⟩
  have HZ := hide_ hz
  rw [hz]
  clear hz
  go_enter Try.func27, Try.ntmps27
  go_wp2_with fail
  go_loopw [3, 4] (fun i k wr => ∃ j : Nat, j ≤ 24 ∧ k = .int .i64 (j : Int) ∧ Hid (allB p j = true) ∧ Below w.heap.size w wr) (fun _ k _ => 24 - (intOf k).toNat)
  case atStart => exact ⟨0, by omega, rfl, hide_ rfl, Below.refl _ _⟩
  case round =>
    obtain ⟨j, hj, rfl, HP, hb⟩ := hrel
    by_cases hlt : j < 24
    · have hlt' : (j : Int) < 24 := by omega
      have q := hide_ (HC.out j hlt wr hb)
      cases hp : p j
      · rw [hp] at q
        have HE : Hid (false = z) := hide_ (by rw [← HZ.out, allB_false hlt hp])
        go_wp2_with (go_at_call 28; refine q.out.mono ?_; rintro e w1 ⟨rfl, b1⟩)
        go_ret
        exact ⟨ret_bool HE.out, hb.trans (b1.mono hb.size)⟩
      · rw [hp] at q
        have HE : Hid (allB p (j + 1) = true) := hide_ (by rw [allB_succ, HP.out, hp]; rfl)
        go_wp2_with (go_at_call 28; refine q.out.mono ?_; rintro e w1 ⟨rfl, b1⟩)
        go_roundw
        case rel => exact ⟨j + 1, by omega, by go_num, HE, hb.trans (b1.mono hb.size)⟩
        case measure => simp [intOf]; omega
    · have hlt' : ¬ (j : Int) < 24 := by omega
      have e : j = 24 := by omega
      subst e
      have HE : Hid (true = z) := hide_ (by rw [← HZ.out, HP.out])
      go_wp2_with fail
      go_ret
      exact ⟨ret_bool HE.out, hb⟩

set_option maxRecDepth 100000 in
set_option maxHeartbeats 1000000 in
theorem every_within (v0 v1 : Value) (p : Nat → Bool) (w : World) (hC : ∀ k : Nat, k < 24 → ∀ W, Below w.heap.size w W → Calls Try.prog 66 #[.int .i64 (k : Int), v0, v1] W fun e W' => e = .returned (.bool (p k)) ∧ Below W.heap.size W W') :
    Calls Try.prog 27 #[.func (.func 66) #[] #[v0, v1]] w fun e w' => e = .returned (.bool (allB p 24)) ∧ Below w.heap.size w w' := by
  have HC := hide_ hC
  clear hC
  obtain ⟨z, hz⟩ : ∃ z, allB p 24 = z := ⟨_, rfl⟩
  have HZ := hide_ hz
  rw [hz]
  clear hz
  go_enter Try.func27, Try.ntmps27
  go_wp2_with fail
  go_loopw [3, 4] (fun i k wr => ∃ j : Nat, j ≤ 24 ∧ k = .int .i64 (j : Int) ∧ Hid (allB p j = true) ∧ Below w.heap.size w wr) (fun _ k _ => 24 - (intOf k).toNat)
  case atStart => exact ⟨0, by omega, rfl, hide_ rfl, Below.refl _ _⟩
  case round =>
    obtain ⟨j, hj, rfl, HP, hb⟩ := hrel
    by_cases hlt : j < 24
    · have hlt' : (j : Int) < 24 := by omega
      have q := hide_ (HC.out j hlt wr hb)
      cases hp : p j
      · rw [hp] at q
        have HE : Hid (false = z) := hide_ (by rw [← HZ.out, allB_false hlt hp])
        go_wp2_with (go_at_call 66; refine q.out.mono ?_; rintro e w1 ⟨rfl, b1⟩)
        go_ret
        exact ⟨ret_bool HE.out, hb.trans (b1.mono hb.size)⟩
      · rw [hp] at q
        have HE : Hid (allB p (j + 1) = true) := hide_ (by rw [allB_succ, HP.out, hp]; rfl)
        go_wp2_with (go_at_call 66; refine q.out.mono ?_; rintro e w1 ⟨rfl, b1⟩)
        go_roundw
        case rel => exact ⟨j + 1, by omega, by go_num, HE, hb.trans (b1.mono hb.size)⟩
        case measure => simp [intOf]; omega
    · have hlt' : ¬ (j : Int) < 24 := by omega
      have e : j = 24 := by omega
      subst e
      have HE : Hid (true = z) := hide_ (by rw [← HZ.out, HP.out])
      go_wp2_with fail
      go_ret
      exact ⟨ret_bool HE.out, hb⟩

def td4 (q : Q4) : Value := td q.1 q.2.1 q.2.2.1 q.2.2.2

def z24q : List Q4 := List.replicate 24 (0, 0, 0, 0)

/-- the first k of t's terns, then zeros -/
def mapK (t : Nat → Q4) (k : Nat) : List Q4 := (List.range k).map t ++ List.replicate (24 - k) (0, 0, 0, 0)

def mapB (t : Nat → Q4) (p : Nat → Bool) : List Q4 := match allB p 24 with | true => (List.range 24).map t | false => z24q

theorem z24q_len : z24q.length = 24 := by simp [z24q]

theorem zcC : (tdc z24q).toArray = (tdc z24q).toArray := by kernel_rfl
theorem zC' : (Try.prog.info? 28).map (fun i => (i.zero, i.size)) = some (some (.agg (tdc z24q).toArray), 96) := by kernel_rfl

theorem mapK_len (t : Nat → Q4) (k : Nat) (h : k ≤ 24) : (mapK t k).length = 24 := by simp [mapK]; omega

theorem mapK_all (t : Nat → Q4) : mapK t 24 = (List.range 24).map t := by simp [mapK]

theorem mapK_at (t : Nat → Q4) (k : Nat) (h : k < 24) : (mapK t k)[k]? = some (0, 0, 0, 0) := by
  unfold mapK
  rw [List.getElem?_append_right (by simp), List.getElem?_replicate]
  simp; omega

theorem mapK_set (t : Nat → Q4) (k : Nat) (h : k < 24) : (mapK t k).set k (t k) = mapK t (k + 1) := by
  unfold mapK
  rw [List.set_append_right _ _ (by simp)]
  have e : 24 - k = (24 - (k + 1)) + 1 := by omega
  rw [e, List.replicate_succ, List.range_succ]
  simp

theorem mapB_true {t : Nat → Q4} {p : Nat → Bool} (h : allB p 24 = true) : mapB t p = mapK t 24 := by unfold mapB; rw [h, mapK_all]

theorem mapB_false {t : Nat → Q4} {p : Nat → Bool} (h : allB p 24 = false) : mapB t p = z24q := by unfold mapB; rw [h]

theorem szC {l : List Q4} (h : l.length = 24) : (Try.prog.info? 28).map (·.size) = some (tdc l).length := by
  have e : (tdc l).length = 96 := by rw [tdc_length, h]
  exact Eq.trans (by kernel_rfl : (Try.prog.info? 28).map (·.size) = some 96) (by rw [e])

theorem zero_at0 (w : World) (o : Obj) : AB ((w.alloc (.cells (tdc z24q).toArray 28)).alloc o) w.heap.size 28 (tdc z24q) := by
  rw [zcC]; exact (AB.at0 w 28 (tdc z24q)).alloc o

theorem zero_at1 (w : World) (o : Obj) : AB ((w.alloc o).alloc (.cells (tdc z24q).toArray 28)) (w.heap.size + 1) 28 (tdc z24q) := by
  rw [zcC]; exact AB.at1 w o 28 (tdc z24q)

theorem AB.setq {w : World} {g : Nat} {ty : TypeId} {l : List Q4} (h : AB w g ty (tdc l)) (k a b c d : Nat) : AB ((((w.setCell ⟨g, k * 4, none⟩ (.int .u64 (a : Int))).setCell ⟨g, k * 4 + 1, none⟩ (.int .u64 (b : Int))).setCell ⟨g, k * 4 + 2, none⟩ (.int .u64 (c : Int))).setCell ⟨g, k * 4 + 3, none⟩ (.int .u64 (d : Int))) g ty (tdc (l.set k (a, b, c, d))) := by
  rw [← tdc_set]
  exact (((h.set (j := k * 4) _).set (j := k * 4 + 1) _).set (j := k * 4 + 2) _).set (j := k * 4 + 3) _

theorem below_fillq {w0 w : World} {g n : Nat} (h : Below n w0 w) (hg : n ≤ g) (i0 i1 i2 i3 : Nat) (x y z u : Value) : Below n w0 ((((w.setCell ⟨g, i0, none⟩ x).setCell ⟨g, i1, none⟩ y).setCell ⟨g, i2, none⟩ z).setCell ⟨g, i3, none⟩ u) :=
  (((h.setCell hg x).setCell hg y).setCell hg z).setCell hg u

set_option maxRecDepth 100000 in
set_option maxHeartbeats 2000000 in
theorem build_meet (v0 v1 : Value) (t : Nat → Q4) (p : Nat → Bool) (w : World) (hC : ∀ k : Nat, k < 24 → ∀ W, Below w.heap.size w W → Calls Try.prog 39 #[.int .i64 (k : Int), v0, v1] W fun e W' => e = .returned (.tuple #[td4 (t k), .bool (p k)]) ∧ Below W.heap.size W W') :
    Calls Try.prog 38 #[.func (.func 39) #[] #[v0, v1]] w fun e w' => e = .returned (.tuple #[cv (mapB t p), .bool (allB p 24)]) ∧ Below w.heap.size w w' := by
  have HC := hide_ hC
  clear hC
  obtain ⟨R, hR⟩ : ∃ R, Value.tuple #[cv (mapB t p), .bool (allB p 24)] = R := ⟨_, rfl⟩
  have HT : Hid (allB p 24 = true → Value.tuple #[.agg (tdc (mapK t 24)).toArray, .bool true] = R) := hide_ (fun h => by rw [← hR, mapB_true h, h]; rfl)
  have HF : Hid (allB p 24 = false → Value.tuple #[.agg (tdc z24q).toArray, .bool false] = R) := hide_ (fun h => by rw [← hR, mapB_false h, h]; rfl)
  rw [hR]
  clear hR
  have Z0 := hide_ (zero_at0 w (.cells (tdc z24q).toArray 28))
  have Z1 := hide_ (zero_at1 w (.cells (tdc z24q).toArray 28))
  have B0 := hide_ (below2 w (.cells (tdc z24q).toArray 28) (.cells (tdc z24q).toArray 28))
  obtain ⟨hz0, -⟩ := zero_of_info zC'
  go_enter Try.func38, Try.ntmps38
  go_wp2_with fail
  generalize (w.alloc (.cells (tdc z24q).toArray 28)).alloc (.cells (tdc z24q).toArray 28) = W at *
  go_loopw [5, 6, 7, 8] (fun _ _ _ i wr => ∃ j : Nat, j ≤ 24 ∧ i = .int .i64 (j : Int) ∧ Hid (allB p j = true) ∧ Hid (AB wr (w.heap.size + 1) 28 (tdc (mapK t j))) ∧ Hid (AB wr w.heap.size 28 (tdc z24q)) ∧ Below w.heap.size w wr) (fun _ _ _ i _ => 24 - (intOf i).toNat)
  case atStart => exact ⟨0, by omega, rfl, hide_ rfl, Z1, Z0, B0.out⟩
  case round =>
    obtain ⟨j, hj, rfl, HP, HA, HZ, hb⟩ := hrel
    by_cases hlt : j < 24
    · have hlt' : (j : Int) < 24 := by omega
      have hj0 : (0 : Int) ≤ (j : Int) := by omega
      have q := HC.out j hlt wr hb
      have HQ := hide_ (mapK_at t j hlt)
      have HS := hide_ (mapK_set t j hlt)
      generalize t j = tj at *
      obtain ⟨a, b, c, d⟩ := tj
      unfold td4 td at q
      dsimp only at q
      have q := hide_ q
      cases hp : p j
      · rw [hp] at q
        have HE := hide_ (HF.out (allB_false hlt hp))
        go_wp2_with (first | (go_at_call 39; refine q.out.mono ?_; rintro e w1 ⟨rfl, b1⟩; have bb := hb.trans (b1.mono hb.size); have HZ1 := hide_ ((HZ.out.later b1).alloc (.cells #[.int .u64 (a : Int), .int .u64 (b : Int), .int .u64 (c : Int), .int .u64 (d : Int)] 26))) | (refine wpList_storeA rfl (.tmp 2) (.tmp 19) rfl w.heap.size (by simp [Act.eval, Act.put]) (tdc z24q) (tdc z24q) rfl (szC z24q_len) (tdc_one _) (by simp [Act.eval, Act.put]) HZ1.out ?_))
        exact bodyPost_ret (results_A2 Try.underlying28 Try.results38 _ _ w.heap.size (tdc z24q) (.bool false) (szC z24q_len) rfl rfl HZ1.out.row) rfl ⟨congrArg _ HE.out, (bb.alloc bb.size _).trans (below_row _ _ _ _ (Nat.le_refl _))⟩
      · rw [hp] at q
        have HE : Hid (allB p (j + 1) = true) := hide_ (by rw [allB_succ, HP.out, hp]; rfl)
        go_wp2_with (go_at_call 39; refine q.out.mono ?_; rintro e w1 ⟨rfl, b1⟩; have bb := hb.trans (b1.mono hb.size); have HA1 := hide_ ((HA.out.later b1).alloc (.cells #[.int .u64 (a : Int), .int .u64 (b : Int), .int .u64 (c : Int), .int .u64 (d : Int)] 26)); have HZ1 := hide_ ((HZ.out.later b1).alloc (.cells #[.int .u64 (a : Int), .int .u64 (b : Int), .int .u64 (c : Int), .int .u64 (d : Int)] 26)); obtain ⟨c0, c1, c2, c3, f0, f1, f2, f3⟩ := HA1.out.quad HQ.out)
        go_roundw
        case rel => exact ⟨j + 1, by omega, by go_num, HE, by rw [← HS.out]; exact hide_ (HA1.out.setq j a b c d), hide_ ((((HZ1.out.far _ (by omega)).far _ (by omega)).far _ (by omega)).far _ (by omega)), below_fillq (bb.alloc bb.size _) (Nat.le_succ _) _ _ _ _ _ _ _ _⟩
        case measure => simp [intOf]; omega
    · have hlt' : ¬ (j : Int) < 24 := by omega
      have e : j = 24 := by omega
      subst e
      have HE := hide_ (HT.out HP.out)
      go_wp2_with (first | (refine wpList_loadA Try.underlying28 rfl (.tmp 4) rfl (w.heap.size + 1) (by simp [Act.eval, Act.put]) (tdc (mapK t 24)) (szC (mapK_len t 24 (Nat.le_refl _))) HA.out ?_) | (refine wpList_storeA rfl (.tmp 2) (.tmp 24) rfl w.heap.size (by simp [Act.eval, Act.put]) (tdc z24q) (tdc (mapK t 24)) (by rw [tdc_length, tdc_length, mapK_len t 24 (Nat.le_refl _), z24q_len]) (szC (mapK_len t 24 (Nat.le_refl _))) (tdc_one _) (by simp [Act.eval, Act.put]) HZ.out ?_))
      exact bodyPost_ret (results_A2 Try.underlying28 Try.results38 _ _ w.heap.size (tdc (mapK t 24)) (.bool true) (szC (mapK_len t 24 (Nat.le_refl _))) rfl rfl HZ.out.row) rfl ⟨congrArg _ HE.out, hb.trans (below_row _ _ _ _ (Nat.le_refl _))⟩

set_option maxRecDepth 100000 in
set_option maxHeartbeats 2000000 in
theorem build_clean (v0 : Value) (t : Nat → Q4) (p : Nat → Bool) (w : World) (hC : ∀ k : Nat, k < 24 → ∀ W, Below w.heap.size w W → Calls Try.prog 68 #[.int .i64 (k : Int), v0] W fun e W' => e = .returned (.tuple #[td4 (t k), .bool (p k)]) ∧ Below W.heap.size W W') :
    Calls Try.prog 38 #[.func (.func 68) #[] #[v0]] w fun e w' => e = .returned (.tuple #[cv (mapB t p), .bool (allB p 24)]) ∧ Below w.heap.size w w' := by
  have HC := hide_ hC
  clear hC
  obtain ⟨R, hR⟩ : ∃ R, Value.tuple #[cv (mapB t p), .bool (allB p 24)] = R := ⟨_, rfl⟩
  have HT : Hid (allB p 24 = true → Value.tuple #[.agg (tdc (mapK t 24)).toArray, .bool true] = R) := hide_ (fun h => by rw [← hR, mapB_true h, h]; rfl)
  have HF : Hid (allB p 24 = false → Value.tuple #[.agg (tdc z24q).toArray, .bool false] = R) := hide_ (fun h => by rw [← hR, mapB_false h, h]; rfl)
  rw [hR]
  clear hR
  have Z0 := hide_ (zero_at0 w (.cells (tdc z24q).toArray 28))
  have Z1 := hide_ (zero_at1 w (.cells (tdc z24q).toArray 28))
  have B0 := hide_ (below2 w (.cells (tdc z24q).toArray 28) (.cells (tdc z24q).toArray 28))
  obtain ⟨hz0, -⟩ := zero_of_info zC'
  go_enter Try.func38, Try.ntmps38
  go_wp2_with fail
  generalize (w.alloc (.cells (tdc z24q).toArray 28)).alloc (.cells (tdc z24q).toArray 28) = W at *
  go_loopw [5, 6, 7, 8] (fun _ _ _ i wr => ∃ j : Nat, j ≤ 24 ∧ i = .int .i64 (j : Int) ∧ Hid (allB p j = true) ∧ Hid (AB wr (w.heap.size + 1) 28 (tdc (mapK t j))) ∧ Hid (AB wr w.heap.size 28 (tdc z24q)) ∧ Below w.heap.size w wr) (fun _ _ _ i _ => 24 - (intOf i).toNat)
  case atStart => exact ⟨0, by omega, rfl, hide_ rfl, Z1, Z0, B0.out⟩
  case round =>
    obtain ⟨j, hj, rfl, HP, HA, HZ, hb⟩ := hrel
    by_cases hlt : j < 24
    · have hlt' : (j : Int) < 24 := by omega
      have hj0 : (0 : Int) ≤ (j : Int) := by omega
      have q := HC.out j hlt wr hb
      have HQ := hide_ (mapK_at t j hlt)
      have HS := hide_ (mapK_set t j hlt)
      generalize t j = tj at *
      obtain ⟨a, b, c, d⟩ := tj
      unfold td4 td at q
      dsimp only at q
      have q := hide_ q
      cases hp : p j
      · rw [hp] at q
        have HE := hide_ (HF.out (allB_false hlt hp))
        go_wp2_with (first | (go_at_call 68; refine q.out.mono ?_; rintro e w1 ⟨rfl, b1⟩; have bb := hb.trans (b1.mono hb.size); have HZ1 := hide_ ((HZ.out.later b1).alloc (.cells #[.int .u64 (a : Int), .int .u64 (b : Int), .int .u64 (c : Int), .int .u64 (d : Int)] 26))) | (refine wpList_storeA rfl (.tmp 2) (.tmp 19) rfl w.heap.size (by simp [Act.eval, Act.put]) (tdc z24q) (tdc z24q) rfl (szC z24q_len) (tdc_one _) (by simp [Act.eval, Act.put]) HZ1.out ?_))
        exact bodyPost_ret (results_A2 Try.underlying28 Try.results38 _ _ w.heap.size (tdc z24q) (.bool false) (szC z24q_len) rfl rfl HZ1.out.row) rfl ⟨congrArg _ HE.out, (bb.alloc bb.size _).trans (below_row _ _ _ _ (Nat.le_refl _))⟩
      · rw [hp] at q
        have HE : Hid (allB p (j + 1) = true) := hide_ (by rw [allB_succ, HP.out, hp]; rfl)
        go_wp2_with (go_at_call 68; refine q.out.mono ?_; rintro e w1 ⟨rfl, b1⟩; have bb := hb.trans (b1.mono hb.size); have HA1 := hide_ ((HA.out.later b1).alloc (.cells #[.int .u64 (a : Int), .int .u64 (b : Int), .int .u64 (c : Int), .int .u64 (d : Int)] 26)); have HZ1 := hide_ ((HZ.out.later b1).alloc (.cells #[.int .u64 (a : Int), .int .u64 (b : Int), .int .u64 (c : Int), .int .u64 (d : Int)] 26)); obtain ⟨c0, c1, c2, c3, f0, f1, f2, f3⟩ := HA1.out.quad HQ.out)
        go_roundw
        case rel => exact ⟨j + 1, by omega, by go_num, HE, by rw [← HS.out]; exact hide_ (HA1.out.setq j a b c d), hide_ ((((HZ1.out.far _ (by omega)).far _ (by omega)).far _ (by omega)).far _ (by omega)), below_fillq (bb.alloc bb.size _) (Nat.le_succ _) _ _ _ _ _ _ _ _⟩
        case measure => simp [intOf]; omega
    · have hlt' : ¬ (j : Int) < 24 := by omega
      have e : j = 24 := by omega
      subst e
      have HE := hide_ (HT.out HP.out)
      go_wp2_with (first | (refine wpList_loadA Try.underlying28 rfl (.tmp 4) rfl (w.heap.size + 1) (by simp [Act.eval, Act.put]) (tdc (mapK t 24)) (szC (mapK_len t 24 (Nat.le_refl _))) HA.out ?_) | (refine wpList_storeA rfl (.tmp 2) (.tmp 24) rfl w.heap.size (by simp [Act.eval, Act.put]) (tdc z24q) (tdc (mapK t 24)) (by rw [tdc_length, tdc_length, mapK_len t 24 (Nat.le_refl _), z24q_len]) (szC (mapK_len t 24 (Nat.le_refl _))) (tdc_one _) (by simp [Act.eval, Act.put]) HZ.out ?_))
      exact bodyPost_ret (results_A2 Try.underlying28 Try.results38 _ _ w.heap.size (tdc (mapK t 24)) (.bool true) (szC (mapK_len t 24 (Nat.le_refl _))) rfl rfl HZ.out.row) rfl ⟨congrArg _ HE.out, hb.trans (below_row _ _ _ _ (Nat.le_refl _))⟩
end

end Go.Proofs.Ytbdbehdgpmfelaa
