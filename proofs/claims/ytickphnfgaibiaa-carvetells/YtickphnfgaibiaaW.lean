import Derived.Test.YtickphnfgaibiaaProg
import Derived.Test.YtickphnfgaibiaaK
import Derived.Test.YtickphnfgaibiaaR
import Derived.Test.YtickphnfgaibiaaS
import Derived.Test.YtickphnfgaibiaaT
import Derived.Test.YtickphnfgaibiaaU
import Derived.Below
import Derived.BigQuiet
import Derived.BigRegion
import Derived.Deep.QuietTactic
import Derived.Deep.RegionHeld3
import Derived.Deep.RegionLaw
import Derived.Deep.RegionLawGrows
import Derived.Handy
import Derived.Laws.AppendOwn
import Derived.Laws.AppendOwnNone
import Derived.Laws.BitsAllLaws
import Derived.Laws.BitsLemmas
import Derived.Laws.CopyOwn
import Derived.Laws.OwnMore
import Derived.Laws.Rows
import Derived.Laws.StructEq
import Derived.OpenShut
import Derived.ProofKit
import Derived.RegionTactic
import Derived.WalkKit
import Derived.WalkLawsBesides
import Derived.WalkSmall
import Derived.WalkSpells
namespace Go.Proofs.Ytickphnfgaibiaa
open Go Go.RowKit
set_option linter.unusedVariables false
set_option linter.unusedSimpArgs false

/-- two cells of a block, with what may be stored there -/
def Two (w : World) (g : Nat) (x y : Nat) : Prop :=
  w.cell? ⟨g, 0, none⟩ = some (.int .u64 (x : Int)) ∧ w.cell? ⟨g, 1, none⟩ = some (.int .u64 (y : Int)) ∧ w.frozen? ⟨g, 0, none⟩ = false ∧ w.frozen? ⟨g, 1, none⟩ = false

theorem Two.lt {w : World} {g x y : Nat} (h : Two w g x y) : g < w.heap.size := World.block_lt_of_cell? w _ h.1

theorem Two.later {w w' : World} {g x y : Nat} (h : Two w g x y) (hb : Below w.heap.size w w') : Two w' g x y :=
  ⟨cell_later hb h.1, cell_later hb h.2.1, by rw [hb.frozen h.lt]; exact h.2.2.1, by rw [hb.frozen h.lt]; exact h.2.2.2⟩

theorem Two.set {w : World} {g x y : Nat} (h : Two w g x y) (u v : Nat) : Two ((w.setCell ⟨g, 0, none⟩ (.int .u64 (u : Int))).setCell ⟨g, 1, none⟩ (.int .u64 (v : Int))) g u v := by
  obtain ⟨h0, h1, h2, h3⟩ := h
  obtain ⟨s0, s1⟩ := set2 (u := .int .u64 (u : Int)) (v := .int .u64 (v : Int)) h0 h1
  refine ⟨?_, s1, ?_, ?_⟩
  · rw [World.cell?_setCell_other (h := (by simp : (⟨g, 1, none⟩ : Addr) ≠ ⟨g, 0, none⟩))]; exact s0
  · simpa using h2
  · simpa using h3

theorem Two.far {w : World} {g f x y u v : Nat} (h : Two w g x y) (hne : f ≠ g) : Two ((w.setCell ⟨f, 0, none⟩ (.int .u64 (u : Int))).setCell ⟨f, 1, none⟩ (.int .u64 (v : Int))) g x y := by
  obtain ⟨h0, h1, h2, h3⟩ := h
  refine ⟨?_, ?_, ?_, ?_⟩
  · rw [World.cell?_setCell_far _ _ _ _ hne, World.cell?_setCell_far _ _ _ _ hne]; exact h0
  · rw [World.cell?_setCell_far _ _ _ _ hne, World.cell?_setCell_far _ _ _ _ hne]; exact h1
  · simpa using h2
  · simpa using h3

set_option maxRecDepth 100000 in
set_option maxHeartbeats 1000000 in
theorem rlow_core (n : Int) (t : Nat) (L M : Nat → Nat) (w : World)
    (HO : Hid (∀ k : Nat, k < 128 → ∀ w, Calls Try.prog 68 #[.agg #[.int .u64 (L k : Int), .int .u64 (M k : Int)], .agg #[.int .u64 (bhz k : Int), .int .u64 (blz k : Int)]] w fun e w' => e = .returned (.agg #[.int .u64 (L (k + 1) : Int), .int .u64 (M (k + 1) : Int)]) ∧ Below w.heap.size w w'))
    (HB : Hid (∀ (i : Int) (w : World), Calls Try.prog 70 #[.int .i64 i] w fun e w' => e = .returned (.agg #[.int .u64 (bhz i : Int), .int .u64 (blz i : Int)]) ∧ Below w.heap.size w w'))
    (H0 : Hid (L 0 = 0 ∧ M 0 = 0)) (hlt : Hid (∀ k : Nat, k < t → (k : Int) < n ∧ (k : Int) < 128)) (hge : Hid (¬ (t : Int) < n ∨ ¬ (t : Int) < 128)) (hle : t ≤ 128) :
    Calls Try.prog 53 #[.int .i64 n] w fun e w' => e = .returned (.agg #[.int .u64 (L t : Int), .int .u64 (M t : Int)]) ∧ Below w.heap.size w w' := by
  go_enter Try.func53, Try.ntmps53
  go_wp2
  go_loopw [4] (fun i wr => ∃ k : Nat, k ≤ t ∧ i = .int .i64 k ∧ Hid (Two wr w.heap.size 0 0) ∧ Hid (Two wr (w.heap.size + 1) (L k) (M k)) ∧ Below w.heap.size w wr) (fun i _ => t - (intOf i).toNat)
  case atStart =>
    refine ⟨0, Nat.zero_le _, rfl, ?_, ?_, by go_grown⟩
    · exact ⟨by simp [go_sem], by simp [go_sem], by simp [go_sem], by simp [go_sem]⟩
    · show Two _ _ _ _
      rw [H0.out.1, H0.out.2]
      exact ⟨by simp [go_sem], by simp [go_sem], by simp [go_sem], by simp [go_sem]⟩
  case round =>
    obtain ⟨k, hk, rfl, T0, T1, bel⟩ := hrel
    by_cases hkt : k < t
    · obtain ⟨l1, l2⟩ := hlt.out k hkt
      obtain ⟨c0, c1, f0, f1⟩ := T1.out
      go_wp2_with fail
      have HM : Hid (∀ wx, Below wr.heap.size wr wx → ∀ wy, Below wx.heap.size wx wy → Two wy (w.heap.size + 1) (L k) (M k)) := fun wx h wy h' => (T1.out.later h).later h'
      go_region_with (first | (go_at_call 70; refine (HB.out _ _).mono ?_; rintro e w1 ⟨rfl, b1⟩; obtain ⟨d0, d1, g0, g1⟩ := HM.out _ (Below.refl _ wr).drew _ b1) | (go_at_call 68; refine (HO.out k (by omega) _).mono ?_; rintro e w2 ⟨rfl, b2⟩; obtain ⟨k0, k1, m0, m1⟩ := HM.out _ ((Below.refl _ wr).drew.trans (by assumption)) _ b2))
      all_goals
        have B12 : Below wr.heap.size wr w2 := (Below.refl _ wr).drew.trans (b1.trans (b2.mono b1.size))
        have T0' : Hid _ := hide_ ((T0.out.later B12).far (f := w.heap.size + 1) (u := L (k + 1)) (v := M (k + 1)) (by omega))
        have T1' : Hid _ := hide_ ((T1.out.later B12).set (L (k + 1)) (M (k + 1)))
        clear c0 c1 f0 f1 d0 d1 g0 g1 k0 k1 m0 m1 T0 T1 HM b1 b2
        go_wp2
        go_roundw
        case rel => exact ⟨k + 1, by omega, by go_num, T0', T1', ((bel.trans (B12.mono bel.size)).setCell (Nat.le_succ _) _).setCell (Nat.le_succ _) _⟩
        case measure => simp [intOf]; omega
    · have he : k = t := by omega
      subst he
      obtain ⟨c0, c1, f0, f1⟩ := T1.out
      obtain ⟨d0, d1, g0, g1⟩ := T0.out
      obtain ⟨s0, s1⟩ := set2 (u := .int .u64 (L k : Int)) (v := .int .u64 (M k : Int)) d0 d1
      clear HO HB H0 hlt T0 T1
      rcases hge.out with hg | hg
      · clear hge
        go_wp2
        exact bodyPost_ret (v := .agg #[.int .u64 (L k : Int), .int .u64 (M k : Int)]) (by simp [results, Try.results53, go_sem, s0, s1]) rfl ⟨rfl, (bel.setCell (Nat.le_refl _) _).setCell (Nat.le_refl _) _⟩
      · clear hge
        by_cases hn : (k : Int) < n
        · go_wp2
          exact bodyPost_ret (v := .agg #[.int .u64 (L k : Int), .int .u64 (M k : Int)]) (by simp [results, Try.results53, go_sem, s0, s1]) rfl ⟨rfl, (bel.setCell (Nat.le_refl _) _).setCell (Nat.le_refl _) _⟩
        · go_wp2
          exact bodyPost_ret (v := .agg #[.int .u64 (L k : Int), .int .u64 (M k : Int)]) (by simp [results, Try.results53, go_sem, s0, s1]) rfl ⟨rfl, (bel.setCell (Nat.le_refl _) _).setCell (Nat.le_refl _) _⟩

theorem rlow_any (n : Int) (w : World) :
    Calls Try.prog 53 #[.int .i64 n] w fun e w' => e = .returned (wd (lowb (cl n 128 - 64)) (lowb (min (cl n 128) 64))) ∧ Below w.heap.size w w' := by
  refine rlow_core n (cl n 128) (fun k => lowb (k - 64)) (fun k => lowb (min k 64)) w (fun k hk w => ?_) rbit_any ⟨by decide, by decide⟩ (fun k hk => by unfold cl at hk; omega) ?_ (cl_le n 128)
  · have := ror_any (lowb (k - 64)) (lowb (min k 64)) (bhz k) (blz k) w (lowb_lt _ (by omega)) (lowb_lt _ (by omega)) (bhz_lt _) (blz_lt _)
    rw [bhz_nat k hk, blz_nat k hk, low_hi, low_lo, ← bhz_nat k hk, ← blz_nat k hk] at this
    exact this
  · show _ ∨ _
    unfold cl; omega

end Go.Proofs.Ytickphnfgaibiaa
