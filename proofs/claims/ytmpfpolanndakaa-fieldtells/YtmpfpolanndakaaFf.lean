import Derived.Test.YtmpfpolanndakaaFe
import Derived.Test.YtmpfpolanndakaaV
import Derived.Deep.RegionWith
import Derived.Deep.RegionHeld3
namespace Go.Proofs.Ytmpfpolanndakaa
open Go Go.RowKit
set_option linter.unusedVariables false
set_option linter.unusedSimpArgs false

/-- what a field needs -/
def nd : Int → List (Int × List Nat)
  | 6 => [(5, [])]
  | 7 => [(4, [2048, 34525])]
  | 8 => [(4, [2048, 34525])]
  | 9 => [(4, [2048, 34525])]
  | 10 => [(4, [2048])]
  | 11 => [(4, [2048])]
  | 12 => [(4, [2048, 34525]), (9, [6])]
  | 13 => [(4, [2048, 34525]), (9, [6])]
  | 14 => [(4, [2048, 34525]), (9, [17])]
  | 15 => [(4, [2048, 34525]), (9, [17])]
  | 16 => [(4, [2048]), (9, [1])]
  | 17 => [(4, [2048]), (9, [1])]
  | 18 => [(4, [2054])]
  | 19 => [(4, [2054])]
  | 20 => [(4, [2054])]
  | 21 => [(4, [34525])]
  | 22 => [(4, [34525])]
  | 23 => [(4, [34887, 34888])]
  | _ => []

/-- a slice of needs reads as a list -/
def NeedsAt (w : World) (v : Value) (l : List (Int × List Nat)) : Prop :=
  ∃ a cap, v = .slice a l.length cap ∧ l.length ≤ cap ∧ cap ≤ maxLen ∧ (a = none → cap = 0) ∧
    ∀ i p, l[i]? = some p → ∃ b off ua uc, a = some ⟨b, off, none⟩ ∧ w.cell? ⟨b, off + i * 2, none⟩ = some (.int .i64 p.1) ∧ w.cell? ⟨b, off + (i * 2 + 1), none⟩ = some (.slice ua p.2.length uc) ∧ Cells w (.slice ua p.2.length uc) 2 p.2.length (wdc (lo p.2))
theorem NeedsAt.later {w w' : World} {v : Value} {l : List (Int × List Nat)} (h : NeedsAt w v l) (hb : Below w.heap.size w w') : NeedsAt w' v l := by
  obtain ⟨a, cap, rfl, h1, h2, h3, h4⟩ := h
  refine ⟨a, cap, rfl, h1, h2, h3, fun i p hp => ?_⟩
  obtain ⟨b, off, ua, uc, e, c0, c1, c2⟩ := h4 i p hp
  exact ⟨b, off, ua, uc, e, cell_later hb c0, cell_later hb c1, c2.later hb⟩
theorem NeedsAt.nil (w : World) : NeedsAt w (.slice none 0 0) [] :=
  ⟨none, 0, rfl, Nat.le_refl _, Nat.zero_le _, fun _ => rfl, fun i p hp => by simp at hp⟩
theorem NeedsAt.one (w : World) (f : Int) (l : List Nat) (ua : Option Addr) (uc g : Nat) (hg : g = w.heap.size) (h : Cells w (.slice ua l.length uc) 2 l.length (wdc (lo l))) :
    NeedsAt (w.alloc (.cells #[.int .i64 f, .slice ua l.length uc] 31)) (.slice (some ⟨g, 0, none⟩) 1 1) [(f, l)] := by
  subst hg
  refine ⟨_, _, rfl, Nat.le_refl _, (by decide), (fun e => by cases e), fun i p hp => ?_⟩
  match i, hp with
  | 0, hp =>
    simp at hp
    subst hp
    exact ⟨_, _, ua, uc, rfl, by simp [go_sem], by simp [go_sem], h.later (by go_grown)⟩
  | i + 1, hp => simp at hp
theorem NeedsAt.two (w : World) (f f' : Int) (l l' : List Nat) (ua ua' : Option Addr) (uc uc' g : Nat) (hg : g = w.heap.size) (h : Cells w (.slice ua l.length uc) 2 l.length (wdc (lo l))) (h' : Cells w (.slice ua' l'.length uc') 2 l'.length (wdc (lo l'))) :
    NeedsAt (w.alloc (.cells #[.int .i64 f, .slice ua l.length uc, .int .i64 f', .slice ua' l'.length uc'] 31)) (.slice (some ⟨g, 0, none⟩) 2 2) [(f, l), (f', l')] := by
  subst hg
  refine ⟨_, _, rfl, Nat.le_refl _, (by decide), (fun e => by cases e), fun i p hp => ?_⟩
  match i, hp with
  | 0, hp =>
    simp at hp
    subst hp
    exact ⟨_, _, ua, uc, rfl, by simp [go_sem], by simp [go_sem], h.later (by go_grown)⟩
  | 1, hp =>
    simp at hp
    subst hp
    exact ⟨_, _, ua', uc', rfl, by simp [go_sem], by simp [go_sem], h'.later (by go_grown)⟩
  | i + 2, hp => simp at hp

theorem keepK {g : Nat} {w0 wa wb : World} {x y : Value} (k : Below wa.heap.size wa wb) (h : wa.cell? ⟨g, 0, none⟩ = some x ∧ wa.cell? ⟨g, 1, none⟩ = some y ∧ Below w0.heap.size w0 wa) :
    wb.cell? ⟨g, 0, none⟩ = some x ∧ wb.cell? ⟨g, 1, none⟩ = some y ∧ Below w0.heap.size w0 wb := keep1 h (Nat.le_refl _) k
theorem keepA {g : Nat} {w0 wa : World} {x y : Value} {o : Obj} (h : wa.cell? ⟨g, 0, none⟩ = some x ∧ wa.cell? ⟨g, 1, none⟩ = some y ∧ Below w0.heap.size w0 wa) :
    (wa.alloc o).cell? ⟨g, 0, none⟩ = some x ∧ (wa.alloc o).cell? ⟨g, 1, none⟩ = some y ∧ Below w0.heap.size w0 (wa.alloc o) := keep1 h (Nat.le_refl _) ((Below.refl _ _).alloc (Nat.le_refl _) _)
theorem keepW {W w' : World} {g : Nat} {x y : Value} (h0 : W.cell? ⟨g, 0, none⟩ = some x) (h1 : W.cell? ⟨g, 1, none⟩ = some y) (hb : Below W.heap.size W w') :
    w'.cell? ⟨g, 0, none⟩ = some x ∧ w'.cell? ⟨g, 1, none⟩ = some y ∧ Below W.heap.size W w' := ⟨cell_later hb h0, cell_later hb h1, hb⟩

/-- a call of need with values that were just laid, or none -/
theorem need_new (f : Int) (l : List Nat) (cs : Array Value) (w : World) (g n m : Nat) (hn : n = l.length) (hm : m = l.length) (hg : g = w.heap.size) (hc : cs = (u64s l).toArray) (hl : l.length ≤ 1000000) :
    Calls Try.prog 47 #[.int .i64 f, .slice (some ⟨g, 0, none⟩) n m] (w.alloc (.cells cs 37)) fun e w' => ∃ ua uc, e = .returned (.agg #[.int .i64 f, .slice ua l.length uc]) ∧ Cells w' (.slice ua l.length uc) 2 l.length (wdc (lo l)) ∧ Below w.heap.size w w' := by
  subst hg hc hn hm
  refine (need_any f _ l (w.alloc (.cells (u64s l).toArray 37)) (Cells.fresh w (u64s l) 37 _ 1 l.length rfl (by simp [u64s]) (by unfold maxLen; omega)) hl).mono ?_
  rintro e w' ⟨u, rfl, ho, hb⟩
  obtain ⟨ua, uc, rfl⟩ := own_slice ho
  exact ⟨ua, uc, rfl, Cells.ofOwn ho, (by go_grown : Below w.heap.size w (w.alloc (.cells (u64s l).toArray 37))).trans (hb.mono (by simp))⟩
theorem need_nil (f : Int) (w : World) :
    Calls Try.prog 47 #[.int .i64 f, .slice none 0 0] w fun e w' => ∃ ua uc, e = .returned (.agg #[.int .i64 f, .slice ua 0 uc]) ∧ Cells w' (.slice ua 0 uc) 2 0 (wdc (lo [])) ∧ Below w.heap.size w w' := by
  refine (need_any f _ [] w (Cells.nil w 1) (by simp)).mono ?_
  rintro e w' ⟨u, rfl, ho, hb⟩
  obtain ⟨ua, uc, rfl⟩ := own_slice ho
  exact ⟨ua, uc, rfl, Cells.ofOwn ho, hb⟩

end Go.Proofs.Ytmpfpolanndakaa
