import Derived.Test.YtlincickgleddaaProg
import Derived.Test.YtlincickgleddaaK
import Derived.Test.YtlincickgleddaaR
import Derived.Test.YtlincickgleddaaFe
import Derived.Test.YtlincickgleddaaHa
import Derived.Test.YtlincickgleddaaHr
import Derived.Test.YtlincickgleddaaGa
import Derived.Test.YtlincickgleddaaTb
import Derived.Test.YtlincickgleddaaTg
import Derived.Below
import Derived.BigQuiet
import Derived.BigRegion
import Derived.ChangeAlike
import Derived.ChangeKeysEq
import Derived.ChangeSame
import Derived.DataElems
import Derived.Deep.MidRow
import Derived.Deep.QuietTactic
import Derived.Deep.RegionHeld
import Derived.Deep.RegionHeld3
import Derived.Deep.RegionLaw
import Derived.Deep.RegionLawGrows
import Derived.Deep.RegionWith
import Derived.Deep.WholeRow
import Derived.Great.BuildSlice
import Derived.Handy
import Derived.Laws.AppendOwn
import Derived.Laws.AppendOwnNone
import Derived.Laws.BitsAllLaws
import Derived.Laws.BitsLemmas
import Derived.Laws.CopyOwn
import Derived.Laws.OwnMore
import Derived.Laws.Rows
import Derived.Laws.StructEq
import Derived.Laws.Tables
import Derived.Lib.BitFns
import Derived.Lib.SmallJoins
import Derived.OpenShut
import Derived.ProofKit
import Derived.RegionTactic
import Derived.WalkKit
import Derived.WalkLawsBesides
import Derived.WalkSmall
import Derived.WalkSpells
import Derived.WideShapes
namespace Go.Proofs.Ytlincickgleddaa
open Go Go.RowKit
set_option linter.unusedVariables false
set_option linter.unusedSimpArgs false

/-- a cube: 24 terns -/
def isC (l : List Q4) : Prop := l.length = 24 ∧ ∀ p ∈ l, p.1 < 18446744073709551616 ∧ p.2.1 < 18446744073709551616 ∧ p.2.2.1 < 18446744073709551616 ∧ p.2.2.2 < 18446744073709551616

def cv (l : List Q4) : Value := .agg (tdc l).toArray

theorem isC.get {l : List Q4} (h : isC l) {k : Nat} (hk : k < 24) : ∃ a b c d, l[k]? = some (a, b, c, d) ∧ a < 18446744073709551616 ∧ b < 18446744073709551616 ∧ c < 18446744073709551616 ∧ d < 18446744073709551616 := by
  have hk' : k < l.length := by rw [h.1]; exact hk
  obtain ⟨h1, h2, h3, h4⟩ := h.2 l[k] (List.getElem_mem hk')
  exact ⟨l[k].1, l[k].2.1, l[k].2.2.1, l[k].2.2.2, by rw [List.getElem?_eq_getElem hk'], h1, h2, h3, h4⟩

theorem AB.quad {w : World} {g k : Nat} {ty : TypeId} {l : List Q4} {a b c d : Nat} (h : AB w g ty (tdc l)) (hk : l[k]? = some (a, b, c, d)) :
    w.cell? ⟨g, k * 4, none⟩ = some (.int .u64 (a : Int)) ∧ w.cell? ⟨g, k * 4 + 1, none⟩ = some (.int .u64 (b : Int)) ∧ w.cell? ⟨g, k * 4 + 2, none⟩ = some (.int .u64 (c : Int)) ∧ w.cell? ⟨g, k * 4 + 3, none⟩ = some (.int .u64 (d : Int)) ∧ w.frozen? ⟨g, k * 4, none⟩ = false ∧ w.frozen? ⟨g, k * 4 + 1, none⟩ = false ∧ w.frozen? ⟨g, k * 4 + 2, none⟩ = false ∧ w.frozen? ⟨g, k * 4 + 3, none⟩ = false := by
  obtain ⟨h0, h1, h2, h3⟩ := tdc_at l k (a, b, c, d) hk
  exact ⟨(h.cell h0).1, (h.cell h1).1, (h.cell h2).1, (h.cell h3).1, (h.cell h0).2, (h.cell h1).2, (h.cell h2).2, (h.cell h3).2⟩

theorem AB.pair {w : World} {g k : Nat} {ty : TypeId} {l : List (Nat × Nat)} {x y : Nat} (h : AB w g ty (wdc l)) (hk : l[k]? = some (x, y)) :
    w.cell? ⟨g, k * 2, none⟩ = some (.int .u64 (x : Int)) ∧ w.cell? ⟨g, k * 2 + 1, none⟩ = some (.int .u64 (y : Int)) ∧ w.frozen? ⟨g, k * 2, none⟩ = false ∧ w.frozen? ⟨g, k * 2 + 1, none⟩ = false := by
  obtain ⟨h0, h1⟩ := wdc_at l k (x, y) hk
  exact ⟨(h.cell h0).1, (h.cell h1).1, (h.cell h0).2, (h.cell h1).2⟩

set_option maxRecDepth 100000 in
set_option maxHeartbeats 1000000 in
theorem chas_fn (l : List Q4) (m : List (Nat × Nat)) (g f k a b c d x y : Nat) (w : World) (hk : k < 24) (hl : l[k]? = some (a, b, c, d)) (hm : m[k]? = some (x, y)) (ha : a < 18446744073709551616) (hb : b < 18446744073709551616) (hc : c < 18446744073709551616) (hd : d < 18446744073709551616) (hx : x < 18446744073709551616) (hy : y < 18446744073709551616) (hA : AB w g 29 (tdc l)) (hH : AB w f 31 (wdc m)) :
    Calls Try.prog 45 #[.int .i64 (k : Int), .pointer (some ⟨g, 0, none⟩), .pointer (some ⟨f, 0, none⟩)] w fun e w' => e = .returned (.bool (thz a b c d x y)) ∧ Below w.heap.size w w' := by
  have q1 := hide_ (fun w => thas_z a b c d x y w ha hb hc hd hx hy)
  generalize thz a b c d x y = z at *
  obtain ⟨o0, o1, o2, o3, -⟩ := hA.quad hl
  obtain ⟨o4, o5, -⟩ := hH.pair hm
  have g1 : (0 : Int) ≤ (k : Int) := by omega
  have g2 : (k : Int) < 24 := by omega
  unfold td at *
  unfold wd at *
  clear hA hH hl hm ha hb hc hd hx hy
  go_enter Try.func45, Try.ntmps45
  go_wp2_with fail
  go_region_held3 (fun w' => w'.cell? ⟨g, k * 4, none⟩ = some (.int .u64 (a : Int)) ∧ w'.cell? ⟨g, k * 4 + 1, none⟩ = some (.int .u64 (b : Int)) ∧ w'.cell? ⟨g, k * 4 + 2, none⟩ = some (.int .u64 (c : Int)) ∧ w'.cell? ⟨g, k * 4 + 3, none⟩ = some (.int .u64 (d : Int)) ∧ w'.cell? ⟨f, k * 2, none⟩ = some (.int .u64 (x : Int)) ∧ w'.cell? ⟨f, k * 2 + 1, none⟩ = some (.int .u64 (y : Int)) ∧ Below w.heap.size w w')
    (first | (with_reducible exact keepA6 (by assumption) (by assumption)) | (exact ⟨o0, o1, o2, o3, o4, o5, (Below.refl _ _).drew⟩) | (exact ⟨o0, o1, o2, o3, o4, o5, Below.refl _ _⟩))
    (first | (go_at_call 46; refine (q1.out _).mono ?_; rintro e w' ⟨rfl, hb⟩))
  rename_i hH
  have bel := hH.2.2.2.2.2.2
  clear hH
  go_wp2_with fail
  go_ret
  exact ⟨rfl, bel⟩

set_option maxRecDepth 100000 in
set_option maxHeartbeats 2000000 in
theorem cmeet_fn (l m : List Q4) (g f k a b c d a2 b2 c2 d2 : Nat) (w : World) (hk : k < 24) (hl : l[k]? = some (a, b, c, d)) (hm : m[k]? = some (a2, b2, c2, d2)) (ha : a < 18446744073709551616) (hb : b < 18446744073709551616) (hc : c < 18446744073709551616) (hd : d < 18446744073709551616) (ha2 : a2 < 18446744073709551616) (hb2 : b2 < 18446744073709551616) (hc2 : c2 < 18446744073709551616) (hd2 : d2 < 18446744073709551616) (hA : AB w g 29 (tdc l)) (hH : AB w f 29 (tdc m)) :
    Calls Try.prog 48 #[.int .i64 (k : Int), .pointer (some ⟨g, 0, none⟩), .pointer (some ⟨f, 0, none⟩)] w fun e w' => e = .returned (.tuple #[td (mz (mok a b c d a2 b2 c2 d2) (a &&& c ||| a2 &&& c2)) (mz (mok a b c d a2 b2 c2 d2) (b &&& d ||| b2 &&& d2)) (mz (mok a b c d a2 b2 c2 d2) (c ||| c2)) (mz (mok a b c d a2 b2 c2 d2) (d ||| d2)), .bool (mok a b c d a2 b2 c2 d2)]) ∧ Below w.heap.size w w' := by
  have q1 := hide_ (fun w => tmeet_ok a b c d a2 b2 c2 d2 w ha hb hc hd ha2 hb2 hc2 hd2)
  generalize mz (mok a b c d a2 b2 c2 d2) (a &&& c ||| a2 &&& c2) = m1 at *
  generalize mz (mok a b c d a2 b2 c2 d2) (b &&& d ||| b2 &&& d2) = m2 at *
  generalize mz (mok a b c d a2 b2 c2 d2) (c ||| c2) = m3 at *
  generalize mz (mok a b c d a2 b2 c2 d2) (d ||| d2) = m4 at *
  generalize mok a b c d a2 b2 c2 d2 = z at *
  have hg := hA.lt
  have hf := hH.lt
  have O : Hid ((w.alloc (.cells #[.int .u64 (0 : Int), .int .u64 (0 : Int), .int .u64 (0 : Int), .int .u64 (0 : Int)] 26)).cell? ⟨g, k * 4, none⟩ = some (.int .u64 (a : Int)) ∧ (w.alloc (.cells #[.int .u64 (0 : Int), .int .u64 (0 : Int), .int .u64 (0 : Int), .int .u64 (0 : Int)] 26)).cell? ⟨g, k * 4 + 1, none⟩ = some (.int .u64 (b : Int)) ∧ (w.alloc (.cells #[.int .u64 (0 : Int), .int .u64 (0 : Int), .int .u64 (0 : Int), .int .u64 (0 : Int)] 26)).cell? ⟨g, k * 4 + 2, none⟩ = some (.int .u64 (c : Int)) ∧ (w.alloc (.cells #[.int .u64 (0 : Int), .int .u64 (0 : Int), .int .u64 (0 : Int), .int .u64 (0 : Int)] 26)).cell? ⟨g, k * 4 + 3, none⟩ = some (.int .u64 (d : Int)) ∧ (w.alloc (.cells #[.int .u64 (0 : Int), .int .u64 (0 : Int), .int .u64 (0 : Int), .int .u64 (0 : Int)] 26)).cell? ⟨f, k * 4, none⟩ = some (.int .u64 (a2 : Int)) ∧ (w.alloc (.cells #[.int .u64 (0 : Int), .int .u64 (0 : Int), .int .u64 (0 : Int), .int .u64 (0 : Int)] 26)).cell? ⟨f, k * 4 + 1, none⟩ = some (.int .u64 (b2 : Int)) ∧ (w.alloc (.cells #[.int .u64 (0 : Int), .int .u64 (0 : Int), .int .u64 (0 : Int), .int .u64 (0 : Int)] 26)).cell? ⟨f, k * 4 + 2, none⟩ = some (.int .u64 (c2 : Int)) ∧ (w.alloc (.cells #[.int .u64 (0 : Int), .int .u64 (0 : Int), .int .u64 (0 : Int), .int .u64 (0 : Int)] 26)).cell? ⟨f, k * 4 + 3, none⟩ = some (.int .u64 (d2 : Int))) := hide_ (by
    obtain ⟨o0, o1, o2, o3, -⟩ := (hA.alloc (.cells #[.int .u64 (0 : Int), .int .u64 (0 : Int), .int .u64 (0 : Int), .int .u64 (0 : Int)] 26)).quad hl
    obtain ⟨o4, o5, o6, o7, -⟩ := (hH.alloc (.cells #[.int .u64 (0 : Int), .int .u64 (0 : Int), .int .u64 (0 : Int), .int .u64 (0 : Int)] 26)).quad hm
    exact ⟨o0, o1, o2, o3, o4, o5, o6, o7⟩)
  have HZ := hide_ (AB.at0 w 26 [.int .u64 (0 : Int), .int .u64 (0 : Int), .int .u64 (0 : Int), .int .u64 (0 : Int)])
  have HB := hide_ (below1 w (.cells #[.int .u64 (0 : Int), .int .u64 (0 : Int), .int .u64 (0 : Int), .int .u64 (0 : Int)] 26))
  have g1 : (0 : Int) ≤ (k : Int) := by omega
  have g2 : (k : Int) < 24 := by omega
  unfold td at *
  clear hA hH hl hm ha hb hc hd ha2 hb2 hc2 hd2
  go_enter Try.func48, Try.ntmps48
  go_wp2_with fail
  generalize w.alloc (.cells #[.int .u64 (0 : Int), .int .u64 (0 : Int), .int .u64 (0 : Int), .int .u64 (0 : Int)] 26) = W at *
  obtain ⟨o0, o1, o2, o3, o4, o5, o6, o7⟩ := O.out
  go_region_held3 (fun w' => w'.cell? ⟨g, k * 4, none⟩ = some (.int .u64 (a : Int)) ∧ w'.cell? ⟨g, k * 4 + 1, none⟩ = some (.int .u64 (b : Int)) ∧ w'.cell? ⟨g, k * 4 + 2, none⟩ = some (.int .u64 (c : Int)) ∧ w'.cell? ⟨g, k * 4 + 3, none⟩ = some (.int .u64 (d : Int)) ∧ w'.cell? ⟨f, k * 4, none⟩ = some (.int .u64 (a2 : Int)) ∧ w'.cell? ⟨f, k * 4 + 1, none⟩ = some (.int .u64 (b2 : Int)) ∧ w'.cell? ⟨f, k * 4 + 2, none⟩ = some (.int .u64 (c2 : Int)) ∧ w'.cell? ⟨f, k * 4 + 3, none⟩ = some (.int .u64 (d2 : Int)) ∧ Room4 w' w.heap.size 26 ∧ Below w.heap.size w w')
    (first | (with_reducible exact keepA8R (by assumption) (by assumption)) | (with_reducible exact keepA8R' (by assumption) (Nat.le_refl _) (by dsimp only; omega) (by dsimp only; omega) (by dsimp only; omega) (by dsimp only; omega) (by dsimp only; omega) (by dsimp only; omega) (by dsimp only; omega) (by dsimp only; omega)) | (exact ⟨o0, o1, o2, o3, o4, o5, o6, o7, HZ.out.room, HB.out.drew⟩) | (exact ⟨o0, o1, o2, o3, o4, o5, o6, o7, HZ.out.room, HB.out⟩))
    (first | (go_at_call 49; refine (q1.out _).mono ?_; rintro e w4 ⟨rfl, b4⟩; have hS4 := keepA8R b4 (by assumption); obtain ⟨z0, z1, z2, z3, e0, e1, e2, e3, p0, p1, p2, p3⟩ := hS4.2.2.2.2.2.2.2.2.1.cells))
  all_goals
    have Z := hS4.2.2.2.2.2.2.2.2.1.fill (.int .u64 (m1 : Int)) (.int .u64 (m2 : Int)) (.int .u64 (m3 : Int)) (.int .u64 (m4 : Int))
    have bb := below_fill (g := w.heap.size) hS4.2.2.2.2.2.2.2.2.2 (Nat.le_refl _) (.int .u64 (m1 : Int)) (.int .u64 (m2 : Int)) (.int .u64 (m3 : Int)) (.int .u64 (m4 : Int))
    obtain ⟨h0, h1, h2, h3, -⟩ := Z.four
    clear hS4 e0 e1 e2 e3 p0 p1 p2 p3
    rename_i hH
    clear hH
    go_wp2_with fail
    exact bodyPost_ret (v := .tuple #[.agg #[.int .u64 (m1 : Int), .int .u64 (m2 : Int), .int .u64 (m3 : Int), .int .u64 (m4 : Int)], .bool z]) (by simp [results, Try.results48, go_sem, h0, h1, h2, h3]) rfl ⟨rfl, bb⟩

end Go.Proofs.Ytlincickgleddaa
