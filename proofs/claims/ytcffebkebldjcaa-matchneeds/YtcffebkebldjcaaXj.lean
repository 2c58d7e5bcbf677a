import Derived.Test.YtcffebkebldjcaaProg
import Derived.Test.YtcffebkebldjcaaXd
import Derived.Test.YtcffebkebldjcaaXg
import Derived.Below
import Derived.BigQuiet
import Derived.BigRegion
import Derived.ChangeAlike
import Derived.ChangeKeysEq
import Derived.ChangeSame
import Derived.DataElems
import Derived.Deep.MidRow
import Derived.Deep.QuietTactic
import Derived.Deep.RegionHeld
import Derived.Deep.RegionHeld3
import Derived.Deep.RegionLaw
import Derived.Deep.RegionLawGrows
import Derived.Deep.RegionWith
import Derived.Deep.WholeRow
import Derived.Great.BuildSlice
import Derived.Handy
import Derived.Laws.AppendOwn
import Derived.Laws.AppendOwnNone
import Derived.Laws.BitsAllLaws
import Derived.Laws.BitsLemmas
import Derived.Laws.CopyOwn
import Derived.Laws.OwnMore
import Derived.Laws.Rows
import Derived.Laws.StructEq
import Derived.Laws.Tables
import Derived.Lib.BitFns
import Derived.Lib.SmallJoins
import Derived.OpenShut
import Derived.ProofKit
import Derived.RegionTactic
import Derived.WalkKit
import Derived.WalkLawsBesides
import Derived.WalkSmall
import Derived.WalkSpells
import Derived.WideShapes
import Derived.Test.YtcffebkebldjcaaXa
namespace Go.Proofs.Ytcffebkebldjcaa
section
open Go Go.RowKit
set_option linter.unusedVariables false
set_option linter.unusedSimpArgs false

/-- what a field needs -/
def nd : Int → List (Int × List Nat)
  | 6 => [(5, [])]
  | 7 => [(4, [2048, 34525])]
  | 8 => [(4, [2048, 34525])]
  | 9 => [(4, [2048, 34525])]
  | 10 => [(4, [2048])]
  | 11 => [(4, [2048])]
  | 12 => [(4, [2048, 34525]), (9, [6])]
  | 13 => [(4, [2048, 34525]), (9, [6])]
  | 14 => [(4, [2048, 34525]), (9, [17])]
  | 15 => [(4, [2048, 34525]), (9, [17])]
  | 16 => [(4, [2048]), (9, [1])]
  | 17 => [(4, [2048]), (9, [1])]
  | 18 => [(4, [2054])]
  | 19 => [(4, [2054])]
  | 20 => [(4, [2054])]
  | 21 => [(4, [34525])]
  | 22 => [(4, [34525])]
  | 23 => [(4, [34887, 34888])]
  | _ => []

/-- a slice of needs reads as a list -/
def NeedsAt (w : World) (v : Value) (l : List (Int × List Nat)) : Prop :=
  ∃ a cap, v = .slice a l.length cap ∧ l.length ≤ cap ∧ cap ≤ maxLen ∧ (a = none → cap = 0) ∧
    ∀ i p, l[i]? = some p → ∃ b off ua uc, a = some ⟨b, off, none⟩ ∧ w.cell? ⟨b, off + i * 2, none⟩ = some (.int .i64 p.1) ∧ w.cell? ⟨b, off + (i * 2 + 1), none⟩ = some (.slice ua p.2.length uc) ∧ Cells w (.slice ua p.2.length uc) 2 p.2.length (wdc (lo p.2))

theorem NeedsAt.later {w w' : World} {v : Value} {l : List (Int × List Nat)} (h : NeedsAt w v l) (hb : Below w.heap.size w w') : NeedsAt w' v l := by
  obtain ⟨a, cap, rfl, h1, h2, h3, h4⟩ := h
  refine ⟨a, cap, rfl, h1, h2, h3, fun i p hp => ?_⟩
  obtain ⟨b, off, ua, uc, e, c0, c1, c2⟩ := h4 i p hp
  exact ⟨b, off, ua, uc, e, cell_later hb c0, cell_later hb c1, c2.later hb⟩

theorem NeedsAt.nil (w : World) : NeedsAt w (.slice none 0 0) [] :=
  ⟨none, 0, rfl, Nat.le_refl _, Nat.zero_le _, fun _ => rfl, fun i p hp => by simp at hp⟩

theorem NeedsAt.one (w : World) (f : Int) (l : List Nat) (ua : Option Addr) (uc g : Nat) (hg : g = w.heap.size) (h : Cells w (.slice ua l.length uc) 2 l.length (wdc (lo l))) :
    NeedsAt (w.alloc (.cells #[.int .i64 f, .slice ua l.length uc] 58)) (.slice (some ⟨g, 0, none⟩) 1 1) [(f, l)] := by
  subst hg
  refine ⟨_, _, rfl, Nat.le_refl _, (by decide), (fun e => by cases e), fun i p hp => ?_⟩
  match i, hp with
  | 0, hp =>
    simp at hp
    subst hp
    exact ⟨_, _, ua, uc, rfl, by simp [go_sem], by simp [go_sem], h.later (by go_grown)⟩
  | i + 1, hp => simp at hp

theorem NeedsAt.two (w : World) (f f' : Int) (l l' : List Nat) (ua ua' : Option Addr) (uc uc' g : Nat) (hg : g = w.heap.size) (h : Cells w (.slice ua l.length uc) 2 l.length (wdc (lo l))) (h' : Cells w (.slice ua' l'.length uc') 2 l'.length (wdc (lo l'))) :
    NeedsAt (w.alloc (.cells #[.int .i64 f, .slice ua l.length uc, .int .i64 f', .slice ua' l'.length uc'] 58)) (.slice (some ⟨g, 0, none⟩) 2 2) [(f, l), (f', l')] := by
  subst hg
  refine ⟨_, _, rfl, Nat.le_refl _, (by decide), (fun e => by cases e), fun i p hp => ?_⟩
  match i, hp with
  | 0, hp =>
    simp at hp
    subst hp
    exact ⟨_, _, ua, uc, rfl, by simp [go_sem], by simp [go_sem], h.later (by go_grown)⟩
  | 1, hp =>
    simp at hp
    subst hp
    exact ⟨_, _, ua', uc', rfl, by simp [go_sem], by simp [go_sem], h'.later (by go_grown)⟩
  | i + 2, hp => simp at hp

theorem keepK {g : Nat} {w0 wa wb : World} {x y : Value} (k : Below wa.heap.size wa wb) (h : wa.cell? ⟨g, 0, none⟩ = some x ∧ wa.cell? ⟨g, 1, none⟩ = some y ∧ Below w0.heap.size w0 wa) :
    wb.cell? ⟨g, 0, none⟩ = some x ∧ wb.cell? ⟨g, 1, none⟩ = some y ∧ Below w0.heap.size w0 wb := keep1 h (Nat.le_refl _) k

theorem keepA {g : Nat} {w0 wa : World} {x y : Value} {o : Obj} (h : wa.cell? ⟨g, 0, none⟩ = some x ∧ wa.cell? ⟨g, 1, none⟩ = some y ∧ Below w0.heap.size w0 wa) :
    (wa.alloc o).cell? ⟨g, 0, none⟩ = some x ∧ (wa.alloc o).cell? ⟨g, 1, none⟩ = some y ∧ Below w0.heap.size w0 (wa.alloc o) := keep1 h (Nat.le_refl _) ((Below.refl _ _).alloc (Nat.le_refl _) _)

theorem keepW {W w' : World} {g : Nat} {x y : Value} (h0 : W.cell? ⟨g, 0, none⟩ = some x) (h1 : W.cell? ⟨g, 1, none⟩ = some y) (hb : Below W.heap.size W w') :
    w'.cell? ⟨g, 0, none⟩ = some x ∧ w'.cell? ⟨g, 1, none⟩ = some y ∧ Below W.heap.size W w' := ⟨cell_later hb h0, cell_later hb h1, hb⟩

/-- a call of need with values that were just laid, or none -/
theorem need_new (f : Int) (l : List Nat) (cs : Array Value) (w : World) (g n m : Nat) (hn : n = l.length) (hm : m = l.length) (hg : g = w.heap.size) (hc : cs = (u64s l).toArray) (hl : l.length ≤ 1000000) :
    Calls Try.prog 62 #[.int .i64 f, .slice (some ⟨g, 0, none⟩) n m] (w.alloc (.cells cs 33)) fun e w' => ∃ ua uc, e = .returned (.agg #[.int .i64 f, .slice ua l.length uc]) ∧ Cells w' (.slice ua l.length uc) 2 l.length (wdc (lo l)) ∧ Below w.heap.size w w' := by
  subst hg hc hn hm
  refine (need_any f _ l (w.alloc (.cells (u64s l).toArray 33)) (Cells.fresh w (u64s l) 33 _ 1 l.length rfl (by simp [u64s]) (by unfold maxLen; omega)) hl).mono ?_
  rintro e w' ⟨u, rfl, ho, hb⟩
  obtain ⟨ua, uc, rfl⟩ := own_slice ho
  exact ⟨ua, uc, rfl, Cells.ofOwn ho, (by go_grown : Below w.heap.size w (w.alloc (.cells (u64s l).toArray 33))).trans (hb.mono (by simp))⟩

theorem need_nil (f : Int) (w : World) :
    Calls Try.prog 62 #[.int .i64 f, .slice none 0 0] w fun e w' => ∃ ua uc, e = .returned (.agg #[.int .i64 f, .slice ua 0 uc]) ∧ Cells w' (.slice ua 0 uc) 2 0 (wdc (lo [])) ∧ Below w.heap.size w w' := by
  refine (need_any f _ [] w (Cells.nil w 1) (by simp)).mono ?_
  rintro e w' ⟨u, rfl, ho, hb⟩
  obtain ⟨ua, uc, rfl⟩ := own_slice ho
  exact ⟨ua, uc, rfl, Cells.ofOwn ho, hb⟩
end

section
open Go Go.RowKit
set_option linter.unusedVariables false
set_option linter.unusedSimpArgs false

set_option maxRecDepth 100000 in
set_option maxHeartbeats 2000000 in
theorem needs_6 (w : World) :
    Calls Try.prog 27 #[.int .i64 6] w fun e w' => ∃ u, e = .returned u ∧ NeedsAt w' u (nd 6) ∧ Below w.heap.size w w' := by
  go_enter Try.func27, Try.ntmps27
  go_wp2_with (go_at_call_of 62 (Value.slice (some ⟨w.heap.size, 0, none⟩) 2 2); refine (need_new 4 [2048, 34525] _ _ _ _ _ (by rfl) (by rfl) (by rfl) (by rfl) (by decide)).mono ?_; rintro e w1 ⟨ua, uc, rfl, ho1, hb1⟩)
  go_wp2_with (go_at_call 62; refine (need_nil 5 _).mono ?_; rintro e w2 ⟨ub, ud, rfl, ho2, hb2⟩)
  go_ret
  refine ⟨_, rfl, NeedsAt.one w2 5 [] ub ud _ rfl ho2, ?_⟩
  have s1 := hb1.size
  have s2 := hb2.size
  simp at s2
  exact ((hb1.alloc s1 _).trans (hb2.mono (by simp; omega))).alloc (by omega) _

set_option maxRecDepth 100000 in
set_option maxHeartbeats 2000000 in
theorem needs_7 (w : World) :
    Calls Try.prog 27 #[.int .i64 7] w fun e w' => ∃ u, e = .returned u ∧ NeedsAt w' u (nd 7) ∧ Below w.heap.size w w' := by
  go_enter Try.func27, Try.ntmps27
  go_wp2_with (go_at_call_of 62 (Value.slice (some ⟨w.heap.size, 0, none⟩) 2 2); refine (need_new 4 [2048, 34525] _ _ _ _ _ (by rfl) (by rfl) (by rfl) (by rfl) (by decide)).mono ?_; rintro e w1 ⟨ua, uc, rfl, ho1, hb1⟩)
  go_ret
  refine ⟨_, rfl, NeedsAt.one _ 4 [2048, 34525] ua uc _ (by simp) (ho1.later (by go_grown)), ?_⟩
  have s1 := hb1.size
  exact (hb1.alloc s1 _).alloc (by simp; omega) _

set_option maxRecDepth 100000 in
set_option maxHeartbeats 2000000 in
theorem needs_8 (w : World) :
    Calls Try.prog 27 #[.int .i64 8] w fun e w' => ∃ u, e = .returned u ∧ NeedsAt w' u (nd 8) ∧ Below w.heap.size w w' := by
  go_enter Try.func27, Try.ntmps27
  go_wp2_with (go_at_call_of 62 (Value.slice (some ⟨w.heap.size, 0, none⟩) 2 2); refine (need_new 4 [2048, 34525] _ _ _ _ _ (by rfl) (by rfl) (by rfl) (by rfl) (by decide)).mono ?_; rintro e w1 ⟨ua, uc, rfl, ho1, hb1⟩)
  go_ret
  refine ⟨_, rfl, NeedsAt.one _ 4 [2048, 34525] ua uc _ (by simp) (ho1.later (by go_grown)), ?_⟩
  have s1 := hb1.size
  exact (hb1.alloc s1 _).alloc (by simp; omega) _

set_option maxRecDepth 100000 in
set_option maxHeartbeats 2000000 in
theorem needs_9 (w : World) :
    Calls Try.prog 27 #[.int .i64 9] w fun e w' => ∃ u, e = .returned u ∧ NeedsAt w' u (nd 9) ∧ Below w.heap.size w w' := by
  go_enter Try.func27, Try.ntmps27
  go_wp2_with (go_at_call_of 62 (Value.slice (some ⟨w.heap.size, 0, none⟩) 2 2); refine (need_new 4 [2048, 34525] _ _ _ _ _ (by rfl) (by rfl) (by rfl) (by rfl) (by decide)).mono ?_; rintro e w1 ⟨ua, uc, rfl, ho1, hb1⟩)
  go_ret
  refine ⟨_, rfl, NeedsAt.one _ 4 [2048, 34525] ua uc _ (by simp) (ho1.later (by go_grown)), ?_⟩
  have s1 := hb1.size
  exact (hb1.alloc s1 _).alloc (by simp; omega) _

set_option maxRecDepth 100000 in
set_option maxHeartbeats 2000000 in
theorem needs_10 (w : World) :
    Calls Try.prog 27 #[.int .i64 10] w fun e w' => ∃ u, e = .returned u ∧ NeedsAt w' u (nd 10) ∧ Below w.heap.size w w' := by
  go_enter Try.func27, Try.ntmps27
  go_wp2_with (go_at_call_of 62 (Value.slice (some ⟨w.heap.size, 0, none⟩) 2 2); refine (need_new 4 [2048, 34525] _ _ _ _ _ (by rfl) (by rfl) (by rfl) (by rfl) (by decide)).mono ?_; rintro e w1 ⟨ua, uc, rfl, ho1, hb1⟩)
  go_wp2_with (go_at_call 62; refine (need_new 4 [2048] _ _ _ _ _ (by rfl) (by rfl) (by simp) (by rfl) (by decide)).mono ?_; rintro e w2 ⟨ub, ud, rfl, ho2, hb2⟩)
  go_ret
  refine ⟨_, rfl, NeedsAt.one w2 4 [2048] ub ud _ rfl ho2, ?_⟩
  have s1 := hb1.size
  have s2 := hb2.size
  simp at s2
  exact ((hb1.alloc s1 _).trans (hb2.mono (by simp; omega))).alloc (by omega) _

set_option maxRecDepth 100000 in
set_option maxHeartbeats 2000000 in
theorem needs_11 (w : World) :
    Calls Try.prog 27 #[.int .i64 11] w fun e w' => ∃ u, e = .returned u ∧ NeedsAt w' u (nd 11) ∧ Below w.heap.size w w' := by
  go_enter Try.func27, Try.ntmps27
  go_wp2_with (go_at_call_of 62 (Value.slice (some ⟨w.heap.size, 0, none⟩) 2 2); refine (need_new 4 [2048, 34525] _ _ _ _ _ (by rfl) (by rfl) (by rfl) (by rfl) (by decide)).mono ?_; rintro e w1 ⟨ua, uc, rfl, ho1, hb1⟩)
  go_wp2_with (go_at_call 62; refine (need_new 4 [2048] _ _ _ _ _ (by rfl) (by rfl) (by simp) (by rfl) (by decide)).mono ?_; rintro e w2 ⟨ub, ud, rfl, ho2, hb2⟩)
  go_ret
  refine ⟨_, rfl, NeedsAt.one w2 4 [2048] ub ud _ rfl ho2, ?_⟩
  have s1 := hb1.size
  have s2 := hb2.size
  simp at s2
  exact ((hb1.alloc s1 _).trans (hb2.mono (by simp; omega))).alloc (by omega) _

set_option maxRecDepth 100000 in
set_option maxHeartbeats 2000000 in
theorem needs_12 (w : World) :
    Calls Try.prog 27 #[.int .i64 12] w fun e w' => ∃ u, e = .returned u ∧ NeedsAt w' u (nd 12) ∧ Below w.heap.size w w' := by
  go_enter Try.func27, Try.ntmps27
  go_wp2_with (go_at_call 62; refine (need_new 4 [2048, 34525] _ _ _ _ _ rfl rfl rfl rfl (by decide)).mono ?_; rintro e w1 ⟨ua, uc, rfl, ho1, hb1⟩)
  have HO1 := hide_ ho1
  clear ho1
  have P1 : Hid (Pair (w1.alloc (.cells #[.int .i64 4, .slice ua 2 uc] 58)) w1.heap.size (.int .i64 4) (.slice ua 2 uc)) := ⟨by simp [go_sem], by simp [go_sem], by simp [go_sem], by simp [go_sem]⟩
  have HB1 : Hid (Below w.heap.size w (w1.alloc (.cells #[.int .i64 4, .slice ua 2 uc] 58))) := hb1.alloc hb1.size _
  have hsz := hb1.size
  have HO2 : Hid (Cells (w1.alloc (.cells #[.int .i64 4, .slice ua 2 uc] 58)) (.slice ua 2 uc) 2 2 (wdc (lo [2048, 34525]))) := HO1.out.later (by go_grown)
  obtain ⟨c0, c1, c2, c3⟩ := P1.out
  generalize hW : w1.alloc (.cells #[.int .i64 4, .slice ua 2 uc] 58) = W at *
  have hWs : W.heap.size = w1.heap.size + 1 := by rw [← hW]; simp
  have HW := hide_ hWs
  clear hW HO1 hWs
  go_region_held3 (fun w' => w'.cell? ⟨w1.heap.size, 0, none⟩ = some (.int .i64 4) ∧ w'.cell? ⟨w1.heap.size, 1, none⟩ = some (.slice ua 2 uc) ∧ Below W.heap.size W w')
    (first | (exact keepK (by assumption) (by assumption)) | (exact keepA (by assumption)) | (exact keepW c0 c1 (by go_grown)))
    (first | (go_at_call 62; refine (need_any 9 _ [6] _ (by first | exact Cells.fresh _ (u64s [6]) 33 _ 1 1 (by simp) rfl (by decide) | exact (Cells.fresh _ (u64s [6]) 33 _ 1 1 (by simp) rfl (by decide)).later (Below.refl _ _).drew) (by decide)).mono ?_; rintro e w2 ⟨u, rfl, ho2, hb2⟩; obtain ⟨ub, ud, rfl⟩ := own_slice ho2; have hbw := (by go_grown : Below W.heap.size W _).trans (hb2.mono (by simp))))
  rename_i hH
  all_goals
    go_wp2
    go_ret
    refine ⟨_, rfl, NeedsAt.two w2 4 9 [2048, 34525] [6] ua ub uc ud _ rfl (HO2.out.later hbw) (Cells.ofOwn ho2), HB1.out.trans (hH.2.2.mono HB1.out.size)⟩

set_option maxRecDepth 100000 in
set_option maxHeartbeats 2000000 in
theorem needs_13 (w : World) :
    Calls Try.prog 27 #[.int .i64 13] w fun e w' => ∃ u, e = .returned u ∧ NeedsAt w' u (nd 13) ∧ Below w.heap.size w w' := by
  go_enter Try.func27, Try.ntmps27
  go_wp2_with (go_at_call 62; refine (need_new 4 [2048, 34525] _ _ _ _ _ rfl rfl rfl rfl (by decide)).mono ?_; rintro e w1 ⟨ua, uc, rfl, ho1, hb1⟩)
  have HO1 := hide_ ho1
  clear ho1
  have P1 : Hid (Pair (w1.alloc (.cells #[.int .i64 4, .slice ua 2 uc] 58)) w1.heap.size (.int .i64 4) (.slice ua 2 uc)) := ⟨by simp [go_sem], by simp [go_sem], by simp [go_sem], by simp [go_sem]⟩
  have HB1 : Hid (Below w.heap.size w (w1.alloc (.cells #[.int .i64 4, .slice ua 2 uc] 58))) := hb1.alloc hb1.size _
  have hsz := hb1.size
  have HO2 : Hid (Cells (w1.alloc (.cells #[.int .i64 4, .slice ua 2 uc] 58)) (.slice ua 2 uc) 2 2 (wdc (lo [2048, 34525]))) := HO1.out.later (by go_grown)
  obtain ⟨c0, c1, c2, c3⟩ := P1.out
  generalize hW : w1.alloc (.cells #[.int .i64 4, .slice ua 2 uc] 58) = W at *
  have hWs : W.heap.size = w1.heap.size + 1 := by rw [← hW]; simp
  have HW := hide_ hWs
  clear hW HO1 hWs
  go_region_held3 (fun w' => w'.cell? ⟨w1.heap.size, 0, none⟩ = some (.int .i64 4) ∧ w'.cell? ⟨w1.heap.size, 1, none⟩ = some (.slice ua 2 uc) ∧ Below W.heap.size W w')
    (first | (exact keepK (by assumption) (by assumption)) | (exact keepA (by assumption)) | (exact keepW c0 c1 (by go_grown)))
    (first | (go_at_call 62; refine (need_any 9 _ [6] _ (by first | exact Cells.fresh _ (u64s [6]) 33 _ 1 1 (by simp) rfl (by decide) | exact (Cells.fresh _ (u64s [6]) 33 _ 1 1 (by simp) rfl (by decide)).later (Below.refl _ _).drew) (by decide)).mono ?_; rintro e w2 ⟨u, rfl, ho2, hb2⟩; obtain ⟨ub, ud, rfl⟩ := own_slice ho2; have hbw := (by go_grown : Below W.heap.size W _).trans (hb2.mono (by simp))))
  rename_i hH
  all_goals
    go_wp2
    go_ret
    refine ⟨_, rfl, NeedsAt.two w2 4 9 [2048, 34525] [6] ua ub uc ud _ rfl (HO2.out.later hbw) (Cells.ofOwn ho2), HB1.out.trans (hH.2.2.mono HB1.out.size)⟩

set_option maxRecDepth 100000 in
set_option maxHeartbeats 2000000 in
theorem needs_14 (w : World) :
    Calls Try.prog 27 #[.int .i64 14] w fun e w' => ∃ u, e = .returned u ∧ NeedsAt w' u (nd 14) ∧ Below w.heap.size w w' := by
  go_enter Try.func27, Try.ntmps27
  go_wp2_with (go_at_call 62; refine (need_new 4 [2048, 34525] _ _ _ _ _ rfl rfl rfl rfl (by decide)).mono ?_; rintro e w1 ⟨ua, uc, rfl, ho1, hb1⟩)
  have HO1 := hide_ ho1
  clear ho1
  have P1 : Hid (Pair (w1.alloc (.cells #[.int .i64 4, .slice ua 2 uc] 58)) w1.heap.size (.int .i64 4) (.slice ua 2 uc)) := ⟨by simp [go_sem], by simp [go_sem], by simp [go_sem], by simp [go_sem]⟩
  have HB1 : Hid (Below w.heap.size w (w1.alloc (.cells #[.int .i64 4, .slice ua 2 uc] 58))) := hb1.alloc hb1.size _
  have hsz := hb1.size
  have HO2 : Hid (Cells (w1.alloc (.cells #[.int .i64 4, .slice ua 2 uc] 58)) (.slice ua 2 uc) 2 2 (wdc (lo [2048, 34525]))) := HO1.out.later (by go_grown)
  obtain ⟨c0, c1, c2, c3⟩ := P1.out
  generalize hW : w1.alloc (.cells #[.int .i64 4, .slice ua 2 uc] 58) = W at *
  have hWs : W.heap.size = w1.heap.size + 1 := by rw [← hW]; simp
  have HW := hide_ hWs
  clear hW HO1 hWs
  go_region_held3 (fun w' => w'.cell? ⟨w1.heap.size, 0, none⟩ = some (.int .i64 4) ∧ w'.cell? ⟨w1.heap.size, 1, none⟩ = some (.slice ua 2 uc) ∧ Below W.heap.size W w')
    (first | (exact keepK (by assumption) (by assumption)) | (exact keepA (by assumption)) | (exact keepW c0 c1 (by go_grown)))
    (first | (go_at_call 62; refine (need_any 9 _ [17] _ (by first | exact Cells.fresh _ (u64s [17]) 33 _ 1 1 (by simp) rfl (by decide) | exact (Cells.fresh _ (u64s [17]) 33 _ 1 1 (by simp) rfl (by decide)).later (Below.refl _ _).drew) (by decide)).mono ?_; rintro e w2 ⟨u, rfl, ho2, hb2⟩; obtain ⟨ub, ud, rfl⟩ := own_slice ho2; have hbw := (by go_grown : Below W.heap.size W _).trans (hb2.mono (by simp))))
  rename_i hH
  all_goals
    go_wp2
    go_ret
    refine ⟨_, rfl, NeedsAt.two w2 4 9 [2048, 34525] [17] ua ub uc ud _ rfl (HO2.out.later hbw) (Cells.ofOwn ho2), HB1.out.trans (hH.2.2.mono HB1.out.size)⟩

set_option maxRecDepth 100000 in
set_option maxHeartbeats 2000000 in
theorem needs_15 (w : World) :
    Calls Try.prog 27 #[.int .i64 15] w fun e w' => ∃ u, e = .returned u ∧ NeedsAt w' u (nd 15) ∧ Below w.heap.size w w' := by
  go_enter Try.func27, Try.ntmps27
  go_wp2_with (go_at_call 62; refine (need_new 4 [2048, 34525] _ _ _ _ _ rfl rfl rfl rfl (by decide)).mono ?_; rintro e w1 ⟨ua, uc, rfl, ho1, hb1⟩)
  have HO1 := hide_ ho1
  clear ho1
  have P1 : Hid (Pair (w1.alloc (.cells #[.int .i64 4, .slice ua 2 uc] 58)) w1.heap.size (.int .i64 4) (.slice ua 2 uc)) := ⟨by simp [go_sem], by simp [go_sem], by simp [go_sem], by simp [go_sem]⟩
  have HB1 : Hid (Below w.heap.size w (w1.alloc (.cells #[.int .i64 4, .slice ua 2 uc] 58))) := hb1.alloc hb1.size _
  have hsz := hb1.size
  have HO2 : Hid (Cells (w1.alloc (.cells #[.int .i64 4, .slice ua 2 uc] 58)) (.slice ua 2 uc) 2 2 (wdc (lo [2048, 34525]))) := HO1.out.later (by go_grown)
  obtain ⟨c0, c1, c2, c3⟩ := P1.out
  generalize hW : w1.alloc (.cells #[.int .i64 4, .slice ua 2 uc] 58) = W at *
  have hWs : W.heap.size = w1.heap.size + 1 := by rw [← hW]; simp
  have HW := hide_ hWs
  clear hW HO1 hWs
  go_region_held3 (fun w' => w'.cell? ⟨w1.heap.size, 0, none⟩ = some (.int .i64 4) ∧ w'.cell? ⟨w1.heap.size, 1, none⟩ = some (.slice ua 2 uc) ∧ Below W.heap.size W w')
    (first | (exact keepK (by assumption) (by assumption)) | (exact keepA (by assumption)) | (exact keepW c0 c1 (by go_grown)))
    (first | (go_at_call 62; refine (need_any 9 _ [17] _ (by first | exact Cells.fresh _ (u64s [17]) 33 _ 1 1 (by simp) rfl (by decide) | exact (Cells.fresh _ (u64s [17]) 33 _ 1 1 (by simp) rfl (by decide)).later (Below.refl _ _).drew) (by decide)).mono ?_; rintro e w2 ⟨u, rfl, ho2, hb2⟩; obtain ⟨ub, ud, rfl⟩ := own_slice ho2; have hbw := (by go_grown : Below W.heap.size W _).trans (hb2.mono (by simp))))
  rename_i hH
  all_goals
    go_wp2
    go_ret
    refine ⟨_, rfl, NeedsAt.two w2 4 9 [2048, 34525] [17] ua ub uc ud _ rfl (HO2.out.later hbw) (Cells.ofOwn ho2), HB1.out.trans (hH.2.2.mono HB1.out.size)⟩

set_option maxRecDepth 100000 in
set_option maxHeartbeats 2000000 in
theorem needs_16 (w : World) :
    Calls Try.prog 27 #[.int .i64 16] w fun e w' => ∃ u, e = .returned u ∧ NeedsAt w' u (nd 16) ∧ Below w.heap.size w w' := by
  go_enter Try.func27, Try.ntmps27
  go_wp2_with (go_at_call_of 62 (Value.slice (some ⟨w.heap.size, 0, none⟩) 2 2); refine (need_new 4 [2048, 34525] _ _ _ _ _ (by rfl) (by rfl) (by rfl) (by rfl) (by decide)).mono ?_; rintro e w1 ⟨ua, uc, rfl, ho1, hb1⟩)
  go_wp2_with (first | (go_at_call_of 62 (Value.int .i64 4); refine (need_new 4 [2048] _ _ _ _ _ (by rfl) (by rfl) (by simp) (by rfl) (by decide)).mono ?_; rintro e w2 ⟨ub, ud, rfl, ho2, hb2⟩) | (go_at_call_of 62 (Value.int .i64 9); refine (need_new 9 [1] _ _ _ _ _ (by rfl) (by rfl) (by rfl) (by rfl) (by decide)).mono ?_; rintro e w3 ⟨ue, uf, rfl, ho3, hb3⟩))
  go_ret
  refine ⟨_, rfl, NeedsAt.two w3 4 9 [2048] [1] ub ue ud uf _ rfl (ho2.later hb3) ho3, ?_⟩
  have s1 := hb1.size
  have s2 := hb2.size
  have s3 := hb3.size
  simp at s2
  exact (((hb1.alloc s1 _).trans (hb2.mono (by simp; omega))).trans (hb3.mono (by omega))).alloc (by omega) _

set_option maxRecDepth 100000 in
set_option maxHeartbeats 2000000 in
theorem needs_17 (w : World) :
    Calls Try.prog 27 #[.int .i64 17] w fun e w' => ∃ u, e = .returned u ∧ NeedsAt w' u (nd 17) ∧ Below w.heap.size w w' := by
  go_enter Try.func27, Try.ntmps27
  go_wp2_with (go_at_call_of 62 (Value.slice (some ⟨w.heap.size, 0, none⟩) 2 2); refine (need_new 4 [2048, 34525] _ _ _ _ _ (by rfl) (by rfl) (by rfl) (by rfl) (by decide)).mono ?_; rintro e w1 ⟨ua, uc, rfl, ho1, hb1⟩)
  go_wp2_with (first | (go_at_call_of 62 (Value.int .i64 4); refine (need_new 4 [2048] _ _ _ _ _ (by rfl) (by rfl) (by simp) (by rfl) (by decide)).mono ?_; rintro e w2 ⟨ub, ud, rfl, ho2, hb2⟩) | (go_at_call_of 62 (Value.int .i64 9); refine (need_new 9 [1] _ _ _ _ _ (by rfl) (by rfl) (by rfl) (by rfl) (by decide)).mono ?_; rintro e w3 ⟨ue, uf, rfl, ho3, hb3⟩))
  go_ret
  refine ⟨_, rfl, NeedsAt.two w3 4 9 [2048] [1] ub ue ud uf _ rfl (ho2.later hb3) ho3, ?_⟩
  have s1 := hb1.size
  have s2 := hb2.size
  have s3 := hb3.size
  simp at s2
  exact (((hb1.alloc s1 _).trans (hb2.mono (by simp; omega))).trans (hb3.mono (by omega))).alloc (by omega) _

set_option maxRecDepth 100000 in
set_option maxHeartbeats 2000000 in
theorem needs_18 (w : World) :
    Calls Try.prog 27 #[.int .i64 18] w fun e w' => ∃ u, e = .returned u ∧ NeedsAt w' u (nd 18) ∧ Below w.heap.size w w' := by
  go_enter Try.func27, Try.ntmps27
  go_wp2_with (go_at_call_of 62 (Value.slice (some ⟨w.heap.size, 0, none⟩) 2 2); refine (need_new 4 [2048, 34525] _ _ _ _ _ (by rfl) (by rfl) (by rfl) (by rfl) (by decide)).mono ?_; rintro e w1 ⟨ua, uc, rfl, ho1, hb1⟩)
  go_wp2_with (go_at_call 62; refine (need_new 4 [2054] _ _ _ _ _ (by rfl) (by rfl) (by simp) (by rfl) (by decide)).mono ?_; rintro e w2 ⟨ub, ud, rfl, ho2, hb2⟩)
  go_ret
  refine ⟨_, rfl, NeedsAt.one w2 4 [2054] ub ud _ rfl ho2, ?_⟩
  have s1 := hb1.size
  have s2 := hb2.size
  simp at s2
  exact ((hb1.alloc s1 _).trans (hb2.mono (by simp; omega))).alloc (by omega) _

set_option maxRecDepth 100000 in
set_option maxHeartbeats 2000000 in
theorem needs_19 (w : World) :
    Calls Try.prog 27 #[.int .i64 19] w fun e w' => ∃ u, e = .returned u ∧ NeedsAt w' u (nd 19) ∧ Below w.heap.size w w' := by
  go_enter Try.func27, Try.ntmps27
  go_wp2_with (go_at_call_of 62 (Value.slice (some ⟨w.heap.size, 0, none⟩) 2 2); refine (need_new 4 [2048, 34525] _ _ _ _ _ (by rfl) (by rfl) (by rfl) (by rfl) (by decide)).mono ?_; rintro e w1 ⟨ua, uc, rfl, ho1, hb1⟩)
  go_wp2_with (go_at_call 62; refine (need_new 4 [2054] _ _ _ _ _ (by rfl) (by rfl) (by simp) (by rfl) (by decide)).mono ?_; rintro e w2 ⟨ub, ud, rfl, ho2, hb2⟩)
  go_ret
  refine ⟨_, rfl, NeedsAt.one w2 4 [2054] ub ud _ rfl ho2, ?_⟩
  have s1 := hb1.size
  have s2 := hb2.size
  simp at s2
  exact ((hb1.alloc s1 _).trans (hb2.mono (by simp; omega))).alloc (by omega) _

set_option maxRecDepth 100000 in
set_option maxHeartbeats 2000000 in
theorem needs_20 (w : World) :
    Calls Try.prog 27 #[.int .i64 20] w fun e w' => ∃ u, e = .returned u ∧ NeedsAt w' u (nd 20) ∧ Below w.heap.size w w' := by
  go_enter Try.func27, Try.ntmps27
  go_wp2_with (go_at_call_of 62 (Value.slice (some ⟨w.heap.size, 0, none⟩) 2 2); refine (need_new 4 [2048, 34525] _ _ _ _ _ (by rfl) (by rfl) (by rfl) (by rfl) (by decide)).mono ?_; rintro e w1 ⟨ua, uc, rfl, ho1, hb1⟩)
  go_wp2_with (go_at_call 62; refine (need_new 4 [2054] _ _ _ _ _ (by rfl) (by rfl) (by simp) (by rfl) (by decide)).mono ?_; rintro e w2 ⟨ub, ud, rfl, ho2, hb2⟩)
  go_ret
  refine ⟨_, rfl, NeedsAt.one w2 4 [2054] ub ud _ rfl ho2, ?_⟩
  have s1 := hb1.size
  have s2 := hb2.size
  simp at s2
  exact ((hb1.alloc s1 _).trans (hb2.mono (by simp; omega))).alloc (by omega) _

set_option maxRecDepth 100000 in
set_option maxHeartbeats 2000000 in
theorem needs_21 (w : World) :
    Calls Try.prog 27 #[.int .i64 21] w fun e w' => ∃ u, e = .returned u ∧ NeedsAt w' u (nd 21) ∧ Below w.heap.size w w' := by
  go_enter Try.func27, Try.ntmps27
  go_wp2_with (go_at_call_of 62 (Value.slice (some ⟨w.heap.size, 0, none⟩) 2 2); refine (need_new 4 [2048, 34525] _ _ _ _ _ (by rfl) (by rfl) (by rfl) (by rfl) (by decide)).mono ?_; rintro e w1 ⟨ua, uc, rfl, ho1, hb1⟩)
  go_wp2_with (go_at_call 62; refine (need_new 4 [34525] _ _ _ _ _ (by rfl) (by rfl) (by simp) (by rfl) (by decide)).mono ?_; rintro e w2 ⟨ub, ud, rfl, ho2, hb2⟩)
  go_ret
  refine ⟨_, rfl, NeedsAt.one w2 4 [34525] ub ud _ rfl ho2, ?_⟩
  have s1 := hb1.size
  have s2 := hb2.size
  simp at s2
  exact ((hb1.alloc s1 _).trans (hb2.mono (by simp; omega))).alloc (by omega) _

set_option maxRecDepth 100000 in
set_option maxHeartbeats 2000000 in
theorem needs_22 (w : World) :
    Calls Try.prog 27 #[.int .i64 22] w fun e w' => ∃ u, e = .returned u ∧ NeedsAt w' u (nd 22) ∧ Below w.heap.size w w' := by
  go_enter Try.func27, Try.ntmps27
  go_wp2_with (go_at_call_of 62 (Value.slice (some ⟨w.heap.size, 0, none⟩) 2 2); refine (need_new 4 [2048, 34525] _ _ _ _ _ (by rfl) (by rfl) (by rfl) (by rfl) (by decide)).mono ?_; rintro e w1 ⟨ua, uc, rfl, ho1, hb1⟩)
  go_wp2_with (go_at_call 62; refine (need_new 4 [34525] _ _ _ _ _ (by rfl) (by rfl) (by simp) (by rfl) (by decide)).mono ?_; rintro e w2 ⟨ub, ud, rfl, ho2, hb2⟩)
  go_ret
  refine ⟨_, rfl, NeedsAt.one w2 4 [34525] ub ud _ rfl ho2, ?_⟩
  have s1 := hb1.size
  have s2 := hb2.size
  simp at s2
  exact ((hb1.alloc s1 _).trans (hb2.mono (by simp; omega))).alloc (by omega) _

set_option maxRecDepth 100000 in
set_option maxHeartbeats 2000000 in
theorem needs_23 (w : World) :
    Calls Try.prog 27 #[.int .i64 23] w fun e w' => ∃ u, e = .returned u ∧ NeedsAt w' u (nd 23) ∧ Below w.heap.size w w' := by
  go_enter Try.func27, Try.ntmps27
  go_wp2_with (go_at_call_of 62 (Value.slice (some ⟨w.heap.size, 0, none⟩) 2 2); refine (need_new 4 [2048, 34525] _ _ _ _ _ (by rfl) (by rfl) (by rfl) (by rfl) (by decide)).mono ?_; rintro e w1 ⟨ua, uc, rfl, ho1, hb1⟩)
  go_wp2_with (go_at_call 62; refine (need_new 4 [34887, 34888] _ _ _ _ _ (by rfl) (by rfl) (by simp) (by rfl) (by decide)).mono ?_; rintro e w2 ⟨ub, ud, rfl, ho2, hb2⟩)
  go_ret
  refine ⟨_, rfl, NeedsAt.one w2 4 [34887, 34888] ub ud _ rfl ho2, ?_⟩
  have s1 := hb1.size
  have s2 := hb2.size
  simp at s2
  exact ((hb1.alloc s1 _).trans (hb2.mono (by simp; omega))).alloc (by omega) _

theorem nd_none {f : Int} (h : ¬ (6 ≤ f ∧ f ≤ 23)) : nd f = [] := by
  unfold nd
  split <;> first | rfl | omega

set_option maxRecDepth 100000 in
set_option maxHeartbeats 2000000 in
theorem needs_no (f : Int) (w : World) (h : ¬ (6 ≤ f ∧ f ≤ 23)) :
    Calls Try.prog 27 #[.int .i64 f] w fun e w' => ∃ u, e = .returned u ∧ NeedsAt w' u (nd f) ∧ Below w.heap.size w w' := by
  rw [nd_none h]
  have g6 : (f == 6) = false := by simp; omega
  have g7 : (f == 7) = false := by simp; omega
  have g8 : (f == 8) = false := by simp; omega
  have g9 : (f == 9) = false := by simp; omega
  have g10 : (f == 10) = false := by simp; omega
  have g11 : (f == 11) = false := by simp; omega
  have g12 : (f == 12) = false := by simp; omega
  have g13 : (f == 13) = false := by simp; omega
  have g14 : (f == 14) = false := by simp; omega
  have g15 : (f == 15) = false := by simp; omega
  have g16 : (f == 16) = false := by simp; omega
  have g17 : (f == 17) = false := by simp; omega
  have g18 : (f == 18) = false := by simp; omega
  have g19 : (f == 19) = false := by simp; omega
  have g20 : (f == 20) = false := by simp; omega
  have g21 : (f == 21) = false := by simp; omega
  have g22 : (f == 22) = false := by simp; omega
  have g23 : (f == 23) = false := by simp; omega
  clear h
  go_enter Try.func27, Try.ntmps27
  go_wp2_with (go_at_call_of 62 (Value.slice (some ⟨w.heap.size, 0, none⟩) 2 2); refine (need_new 4 [2048, 34525] _ _ _ _ _ (by rfl) (by rfl) (by rfl) (by rfl) (by decide)).mono ?_; rintro e w1 ⟨ua, uc, rfl, ho1, hb1⟩)
  go_ret
  exact ⟨_, rfl, NeedsAt.nil _, hb1.alloc hb1.size _⟩

theorem needs_any (f : Int) (w : World) :
    Calls Try.prog 27 #[.int .i64 f] w fun e w' => ∃ u, e = .returned u ∧ NeedsAt w' u (nd f) ∧ Below w.heap.size w w' := by
  by_cases h : 6 ≤ f ∧ f ≤ 23
  · obtain rfl | rfl | rfl | rfl | rfl | rfl | rfl | rfl | rfl | rfl | rfl | rfl | rfl | rfl | rfl | rfl | rfl | rfl : f = 6 ∨ f = 7 ∨ f = 8 ∨ f = 9 ∨ f = 10 ∨ f = 11 ∨ f = 12 ∨ f = 13 ∨ f = 14 ∨ f = 15 ∨ f = 16 ∨ f = 17 ∨ f = 18 ∨ f = 19 ∨ f = 20 ∨ f = 21 ∨ f = 22 ∨ f = 23 := by omega
    · exact needs_6 w
    · exact needs_7 w
    · exact needs_8 w
    · exact needs_9 w
    · exact needs_10 w
    · exact needs_11 w
    · exact needs_12 w
    · exact needs_13 w
    · exact needs_14 w
    · exact needs_15 w
    · exact needs_16 w
    · exact needs_17 w
    · exact needs_18 w
    · exact needs_19 w
    · exact needs_20 w
    · exact needs_21 w
    · exact needs_22 w
    · exact needs_23 w
  · exact needs_no f w h
end

section
open Go Go.RowKit
set_option linter.unusedVariables false
set_option linter.unusedSimpArgs false

theorem ether_new (l : List Nat) (cs : Array Value) (w : World) (g n m : Nat) (hn : n = l.length) (hm : m = l.length) (hg : g = w.heap.size) (hc : cs = (u64s l).toArray) (hl : l.length ≤ 1000000) :
    Calls Try.prog 82 #[.slice (some ⟨g, 0, none⟩) n m] (w.alloc (.cells cs 33)) fun e w' => ∃ ua uc, e = .returned (.agg #[.int .i64 4, .slice ua l.length uc]) ∧ Cells w' (.slice ua l.length uc) 2 l.length (wdc (lo l)) ∧ Below w.heap.size w w' := by
  subst hg hc hn hm
  refine (ether_any _ l (w.alloc (.cells (u64s l).toArray 33)) (Cells.fresh w (u64s l) 33 _ 1 l.length rfl (by simp [u64s]) (by unfold maxLen; omega)) hl).mono ?_
  rintro e w' ⟨u, rfl, ho, hb⟩
  obtain ⟨ua, uc, rfl⟩ := own_slice ho
  exact ⟨ua, uc, rfl, Cells.ofOwn ho, (by go_grown : Below w.heap.size w (w.alloc (.cells (u64s l).toArray 33))).trans (hb.mono (by simp))⟩

theorem proto_new (n : Nat) (w : World) :
    Calls Try.prog 83 #[.int .u64 (n : Int)] w fun e w' => ∃ ua uc, e = .returned (.agg #[.int .i64 9, .slice ua 1 uc]) ∧ Cells w' (.slice ua 1 uc) 2 1 (wdc (lo [n])) ∧ Below w.heap.size w w' := by
  refine (proto_any n w).mono ?_
  rintro e w' ⟨u, rfl, ho, hb⟩
  obtain ⟨h0, a, c, rfl, r⟩ := ho
  exact ⟨a, c, rfl, ⟨h0, a, c, rfl, r⟩, hb⟩

set_option maxRecDepth 100000 in
set_option maxHeartbeats 2000000 in
theorem rneeds_6 (w : World) :
    Calls Try.prog 48 #[.int .i64 6] w fun e w' => ∃ u, e = .returned u ∧ NeedsAt w' u (nd 6) ∧ Below w.heap.size w w' := by
  go_enter Try.func48, Try.ntmps48
  go_wp2
  go_ret
  exact ⟨_, rfl, NeedsAt.one w 5 [] none 0 _ rfl (Cells.nil _ _), by go_grown⟩

set_option maxRecDepth 100000 in
set_option maxHeartbeats 2000000 in
theorem rneeds_7 (w : World) :
    Calls Try.prog 48 #[.int .i64 7] w fun e w' => ∃ u, e = .returned u ∧ NeedsAt w' u (nd 7) ∧ Below w.heap.size w w' := by
  go_enter Try.func48, Try.ntmps48
  go_wp2_with (go_at_call 82; refine (ether_new [2048, 34525] _ _ _ _ _ (by rfl) (by rfl) (by rfl) (by rfl) (by decide)).mono ?_; rintro e w1 ⟨ua, uc, rfl, ho1, hb1⟩)
  go_ret
  exact ⟨_, rfl, NeedsAt.one w1 4 [2048, 34525] ua uc _ rfl ho1, hb1.alloc hb1.size _⟩

set_option maxRecDepth 100000 in
set_option maxHeartbeats 2000000 in
theorem rneeds_8 (w : World) :
    Calls Try.prog 48 #[.int .i64 8] w fun e w' => ∃ u, e = .returned u ∧ NeedsAt w' u (nd 8) ∧ Below w.heap.size w w' := by
  go_enter Try.func48, Try.ntmps48
  go_wp2_with (go_at_call 82; refine (ether_new [2048, 34525] _ _ _ _ _ (by rfl) (by rfl) (by rfl) (by rfl) (by decide)).mono ?_; rintro e w1 ⟨ua, uc, rfl, ho1, hb1⟩)
  go_ret
  exact ⟨_, rfl, NeedsAt.one w1 4 [2048, 34525] ua uc _ rfl ho1, hb1.alloc hb1.size _⟩

set_option maxRecDepth 100000 in
set_option maxHeartbeats 2000000 in
theorem rneeds_9 (w : World) :
    Calls Try.prog 48 #[.int .i64 9] w fun e w' => ∃ u, e = .returned u ∧ NeedsAt w' u (nd 9) ∧ Below w.heap.size w w' := by
  go_enter Try.func48, Try.ntmps48
  go_wp2_with (go_at_call 82; refine (ether_new [2048, 34525] _ _ _ _ _ (by rfl) (by rfl) (by rfl) (by rfl) (by decide)).mono ?_; rintro e w1 ⟨ua, uc, rfl, ho1, hb1⟩)
  go_ret
  exact ⟨_, rfl, NeedsAt.one w1 4 [2048, 34525] ua uc _ rfl ho1, hb1.alloc hb1.size _⟩

set_option maxRecDepth 100000 in
set_option maxHeartbeats 2000000 in
theorem rneeds_10 (w : World) :
    Calls Try.prog 48 #[.int .i64 10] w fun e w' => ∃ u, e = .returned u ∧ NeedsAt w' u (nd 10) ∧ Below w.heap.size w w' := by
  go_enter Try.func48, Try.ntmps48
  go_wp2_with (go_at_call 82; refine (ether_new [2048] _ _ _ _ _ (by rfl) (by rfl) (by rfl) (by rfl) (by decide)).mono ?_; rintro e w1 ⟨ua, uc, rfl, ho1, hb1⟩)
  go_ret
  exact ⟨_, rfl, NeedsAt.one w1 4 [2048] ua uc _ rfl ho1, hb1.alloc hb1.size _⟩

set_option maxRecDepth 100000 in
set_option maxHeartbeats 2000000 in
theorem rneeds_11 (w : World) :
    Calls Try.prog 48 #[.int .i64 11] w fun e w' => ∃ u, e = .returned u ∧ NeedsAt w' u (nd 11) ∧ Below w.heap.size w w' := by
  go_enter Try.func48, Try.ntmps48
  go_wp2_with (go_at_call 82; refine (ether_new [2048] _ _ _ _ _ (by rfl) (by rfl) (by rfl) (by rfl) (by decide)).mono ?_; rintro e w1 ⟨ua, uc, rfl, ho1, hb1⟩)
  go_ret
  exact ⟨_, rfl, NeedsAt.one w1 4 [2048] ua uc _ rfl ho1, hb1.alloc hb1.size _⟩

set_option maxRecDepth 100000 in
set_option maxHeartbeats 2000000 in
theorem rneeds_12 (w : World) :
    Calls Try.prog 48 #[.int .i64 12] w fun e w' => ∃ u, e = .returned u ∧ NeedsAt w' u (nd 12) ∧ Below w.heap.size w w' := by
  go_enter Try.func48, Try.ntmps48
  go_wp2_with (first | (go_at_call 82; refine (ether_new [2048, 34525] _ _ _ _ _ (by rfl) (by rfl) (by rfl) (by rfl) (by decide)).mono ?_; rintro e w1 ⟨ua, uc, rfl, ho1, hb1⟩) | (go_at_call 83; refine (proto_new 6 _).mono ?_; rintro e w2 ⟨ub, ud, rfl, ho2, hb2⟩))
  go_ret
  exact ⟨_, rfl, NeedsAt.two w2 4 9 [2048, 34525] [6] ua ub uc ud _ rfl (ho1.later hb2) ho2, (hb1.trans (hb2.mono hb1.size)).alloc (Nat.le_trans hb1.size hb2.size) _⟩

set_option maxRecDepth 100000 in
set_option maxHeartbeats 2000000 in
theorem rneeds_13 (w : World) :
    Calls Try.prog 48 #[.int .i64 13] w fun e w' => ∃ u, e = .returned u ∧ NeedsAt w' u (nd 13) ∧ Below w.heap.size w w' := by
  go_enter Try.func48, Try.ntmps48
  go_wp2_with (first | (go_at_call 82; refine (ether_new [2048, 34525] _ _ _ _ _ (by rfl) (by rfl) (by rfl) (by rfl) (by decide)).mono ?_; rintro e w1 ⟨ua, uc, rfl, ho1, hb1⟩) | (go_at_call 83; refine (proto_new 6 _).mono ?_; rintro e w2 ⟨ub, ud, rfl, ho2, hb2⟩))
  go_ret
  exact ⟨_, rfl, NeedsAt.two w2 4 9 [2048, 34525] [6] ua ub uc ud _ rfl (ho1.later hb2) ho2, (hb1.trans (hb2.mono hb1.size)).alloc (Nat.le_trans hb1.size hb2.size) _⟩

set_option maxRecDepth 100000 in
set_option maxHeartbeats 2000000 in
theorem rneeds_14 (w : World) :
    Calls Try.prog 48 #[.int .i64 14] w fun e w' => ∃ u, e = .returned u ∧ NeedsAt w' u (nd 14) ∧ Below w.heap.size w w' := by
  go_enter Try.func48, Try.ntmps48
  go_wp2_with (first | (go_at_call 82; refine (ether_new [2048, 34525] _ _ _ _ _ (by rfl) (by rfl) (by rfl) (by rfl) (by decide)).mono ?_; rintro e w1 ⟨ua, uc, rfl, ho1, hb1⟩) | (go_at_call 83; refine (proto_new 17 _).mono ?_; rintro e w2 ⟨ub, ud, rfl, ho2, hb2⟩))
  go_ret
  exact ⟨_, rfl, NeedsAt.two w2 4 9 [2048, 34525] [17] ua ub uc ud _ rfl (ho1.later hb2) ho2, (hb1.trans (hb2.mono hb1.size)).alloc (Nat.le_trans hb1.size hb2.size) _⟩

set_option maxRecDepth 100000 in
set_option maxHeartbeats 2000000 in
theorem rneeds_15 (w : World) :
    Calls Try.prog 48 #[.int .i64 15] w fun e w' => ∃ u, e = .returned u ∧ NeedsAt w' u (nd 15) ∧ Below w.heap.size w w' := by
  go_enter Try.func48, Try.ntmps48
  go_wp2_with (first | (go_at_call 82; refine (ether_new [2048, 34525] _ _ _ _ _ (by rfl) (by rfl) (by rfl) (by rfl) (by decide)).mono ?_; rintro e w1 ⟨ua, uc, rfl, ho1, hb1⟩) | (go_at_call 83; refine (proto_new 17 _).mono ?_; rintro e w2 ⟨ub, ud, rfl, ho2, hb2⟩))
  go_ret
  exact ⟨_, rfl, NeedsAt.two w2 4 9 [2048, 34525] [17] ua ub uc ud _ rfl (ho1.later hb2) ho2, (hb1.trans (hb2.mono hb1.size)).alloc (Nat.le_trans hb1.size hb2.size) _⟩

set_option maxRecDepth 100000 in
set_option maxHeartbeats 2000000 in
theorem rneeds_16 (w : World) :
    Calls Try.prog 48 #[.int .i64 16] w fun e w' => ∃ u, e = .returned u ∧ NeedsAt w' u (nd 16) ∧ Below w.heap.size w w' := by
  go_enter Try.func48, Try.ntmps48
  go_wp2_with (first | (go_at_call 82; refine (ether_new [2048] _ _ _ _ _ (by rfl) (by rfl) (by rfl) (by rfl) (by decide)).mono ?_; rintro e w1 ⟨ua, uc, rfl, ho1, hb1⟩) | (go_at_call 83; refine (proto_new 1 _).mono ?_; rintro e w2 ⟨ub, ud, rfl, ho2, hb2⟩))
  go_ret
  exact ⟨_, rfl, NeedsAt.two w2 4 9 [2048] [1] ua ub uc ud _ rfl (ho1.later hb2) ho2, (hb1.trans (hb2.mono hb1.size)).alloc (Nat.le_trans hb1.size hb2.size) _⟩

set_option maxRecDepth 100000 in
set_option maxHeartbeats 2000000 in
theorem rneeds_17 (w : World) :
    Calls Try.prog 48 #[.int .i64 17] w fun e w' => ∃ u, e = .returned u ∧ NeedsAt w' u (nd 17) ∧ Below w.heap.size w w' := by
  go_enter Try.func48, Try.ntmps48
  go_wp2_with (first | (go_at_call 82; refine (ether_new [2048] _ _ _ _ _ (by rfl) (by rfl) (by rfl) (by rfl) (by decide)).mono ?_; rintro e w1 ⟨ua, uc, rfl, ho1, hb1⟩) | (go_at_call 83; refine (proto_new 1 _).mono ?_; rintro e w2 ⟨ub, ud, rfl, ho2, hb2⟩))
  go_ret
  exact ⟨_, rfl, NeedsAt.two w2 4 9 [2048] [1] ua ub uc ud _ rfl (ho1.later hb2) ho2, (hb1.trans (hb2.mono hb1.size)).alloc (Nat.le_trans hb1.size hb2.size) _⟩

set_option maxRecDepth 100000 in
set_option maxHeartbeats 2000000 in
theorem rneeds_18 (w : World) :
    Calls Try.prog 48 #[.int .i64 18] w fun e w' => ∃ u, e = .returned u ∧ NeedsAt w' u (nd 18) ∧ Below w.heap.size w w' := by
  go_enter Try.func48, Try.ntmps48
  go_wp2_with (go_at_call 82; refine (ether_new [2054] _ _ _ _ _ (by rfl) (by rfl) (by rfl) (by rfl) (by decide)).mono ?_; rintro e w1 ⟨ua, uc, rfl, ho1, hb1⟩)
  go_ret
  exact ⟨_, rfl, NeedsAt.one w1 4 [2054] ua uc _ rfl ho1, hb1.alloc hb1.size _⟩

set_option maxRecDepth 100000 in
set_option maxHeartbeats 2000000 in
theorem rneeds_19 (w : World) :
    Calls Try.prog 48 #[.int .i64 19] w fun e w' => ∃ u, e = .returned u ∧ NeedsAt w' u (nd 19) ∧ Below w.heap.size w w' := by
  go_enter Try.func48, Try.ntmps48
  go_wp2_with (go_at_call 82; refine (ether_new [2054] _ _ _ _ _ (by rfl) (by rfl) (by rfl) (by rfl) (by decide)).mono ?_; rintro e w1 ⟨ua, uc, rfl, ho1, hb1⟩)
  go_ret
  exact ⟨_, rfl, NeedsAt.one w1 4 [2054] ua uc _ rfl ho1, hb1.alloc hb1.size _⟩

set_option maxRecDepth 100000 in
set_option maxHeartbeats 2000000 in
theorem rneeds_20 (w : World) :
    Calls Try.prog 48 #[.int .i64 20] w fun e w' => ∃ u, e = .returned u ∧ NeedsAt w' u (nd 20) ∧ Below w.heap.size w w' := by
  go_enter Try.func48, Try.ntmps48
  go_wp2_with (go_at_call 82; refine (ether_new [2054] _ _ _ _ _ (by rfl) (by rfl) (by rfl) (by rfl) (by decide)).mono ?_; rintro e w1 ⟨ua, uc, rfl, ho1, hb1⟩)
  go_ret
  exact ⟨_, rfl, NeedsAt.one w1 4 [2054] ua uc _ rfl ho1, hb1.alloc hb1.size _⟩

set_option maxRecDepth 100000 in
set_option maxHeartbeats 2000000 in
theorem rneeds_21 (w : World) :
    Calls Try.prog 48 #[.int .i64 21] w fun e w' => ∃ u, e = .returned u ∧ NeedsAt w' u (nd 21) ∧ Below w.heap.size w w' := by
  go_enter Try.func48, Try.ntmps48
  go_wp2_with (go_at_call 82; refine (ether_new [34525] _ _ _ _ _ (by rfl) (by rfl) (by rfl) (by rfl) (by decide)).mono ?_; rintro e w1 ⟨ua, uc, rfl, ho1, hb1⟩)
  go_ret
  exact ⟨_, rfl, NeedsAt.one w1 4 [34525] ua uc _ rfl ho1, hb1.alloc hb1.size _⟩

set_option maxRecDepth 100000 in
set_option maxHeartbeats 2000000 in
theorem rneeds_22 (w : World) :
    Calls Try.prog 48 #[.int .i64 22] w fun e w' => ∃ u, e = .returned u ∧ NeedsAt w' u (nd 22) ∧ Below w.heap.size w w' := by
  go_enter Try.func48, Try.ntmps48
  go_wp2_with (go_at_call 82; refine (ether_new [34525] _ _ _ _ _ (by rfl) (by rfl) (by rfl) (by rfl) (by decide)).mono ?_; rintro e w1 ⟨ua, uc, rfl, ho1, hb1⟩)
  go_ret
  exact ⟨_, rfl, NeedsAt.one w1 4 [34525] ua uc _ rfl ho1, hb1.alloc hb1.size _⟩

set_option maxRecDepth 100000 in
set_option maxHeartbeats 2000000 in
theorem rneeds_23 (w : World) :
    Calls Try.prog 48 #[.int .i64 23] w fun e w' => ∃ u, e = .returned u ∧ NeedsAt w' u (nd 23) ∧ Below w.heap.size w w' := by
  go_enter Try.func48, Try.ntmps48
  go_wp2_with (go_at_call 82; refine (ether_new [34887, 34888] _ _ _ _ _ (by rfl) (by rfl) (by rfl) (by rfl) (by decide)).mono ?_; rintro e w1 ⟨ua, uc, rfl, ho1, hb1⟩)
  go_ret
  exact ⟨_, rfl, NeedsAt.one w1 4 [34887, 34888] ua uc _ rfl ho1, hb1.alloc hb1.size _⟩

set_option maxRecDepth 100000 in
set_option maxHeartbeats 2000000 in
theorem rneeds_no (f : Int) (w : World) (h : ¬ (6 ≤ f ∧ f ≤ 23)) :
    Calls Try.prog 48 #[.int .i64 f] w fun e w' => ∃ u, e = .returned u ∧ NeedsAt w' u (nd f) ∧ Below w.heap.size w w' := by
  rw [nd_none h]
  have g6 : (f == 6) = false := by simp; omega
  have g7 : (f == 7) = false := by simp; omega
  have g8 : (f == 8) = false := by simp; omega
  have g9 : (f == 9) = false := by simp; omega
  have g10 : (f == 10) = false := by simp; omega
  have g11 : (f == 11) = false := by simp; omega
  have g12 : (f == 12) = false := by simp; omega
  have g13 : (f == 13) = false := by simp; omega
  have g14 : (f == 14) = false := by simp; omega
  have g15 : (f == 15) = false := by simp; omega
  have g16 : (f == 16) = false := by simp; omega
  have g17 : (f == 17) = false := by simp; omega
  have g18 : (f == 18) = false := by simp; omega
  have g19 : (f == 19) = false := by simp; omega
  have g20 : (f == 20) = false := by simp; omega
  have g21 : (f == 21) = false := by simp; omega
  have g22 : (f == 22) = false := by simp; omega
  have g23 : (f == 23) = false := by simp; omega
  clear h
  go_enter Try.func48, Try.ntmps48
  go_wp2
  go_ret
  exact ⟨_, rfl, NeedsAt.nil _, Below.refl _ _⟩

theorem rneeds_any (f : Int) (w : World) :
    Calls Try.prog 48 #[.int .i64 f] w fun e w' => ∃ u, e = .returned u ∧ NeedsAt w' u (nd f) ∧ Below w.heap.size w w' := by
  by_cases h : 6 ≤ f ∧ f ≤ 23
  · obtain rfl | rfl | rfl | rfl | rfl | rfl | rfl | rfl | rfl | rfl | rfl | rfl | rfl | rfl | rfl | rfl | rfl | rfl : f = 6 ∨ f = 7 ∨ f = 8 ∨ f = 9 ∨ f = 10 ∨ f = 11 ∨ f = 12 ∨ f = 13 ∨ f = 14 ∨ f = 15 ∨ f = 16 ∨ f = 17 ∨ f = 18 ∨ f = 19 ∨ f = 20 ∨ f = 21 ∨ f = 22 ∨ f = 23 := by omega
    · exact rneeds_6 w
    · exact rneeds_7 w
    · exact rneeds_8 w
    · exact rneeds_9 w
    · exact rneeds_10 w
    · exact rneeds_11 w
    · exact rneeds_12 w
    · exact rneeds_13 w
    · exact rneeds_14 w
    · exact rneeds_15 w
    · exact rneeds_16 w
    · exact rneeds_17 w
    · exact rneeds_18 w
    · exact rneeds_19 w
    · exact rneeds_20 w
    · exact rneeds_21 w
    · exact rneeds_22 w
    · exact rneeds_23 w
  · exact rneeds_no f w h
end

end Go.Proofs.Ytcffebkebldjcaa
