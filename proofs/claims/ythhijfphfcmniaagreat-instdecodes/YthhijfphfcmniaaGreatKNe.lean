import Derived.Test.YthhijfphfcmniaaGreatJPe
import Derived.Test.YthhijfphfcmniaaGreatXce
import Derived.Test.YthhijfphfcmniaaGreatJAe
import Derived.Test.YthhijfphfcmniaaGreatJDe
import Derived.Test.YthhijfphfcmniaaGreatXhe
import Derived.WalkKit
import Derived.WalkSpells
import Derived.WalkLawsBesides
import Derived.Below
import Derived.Handy
import Derived.Deep.RegionHeld3
import Derived.Deep.RegionWith
import Derived.Deep.MidRow
import Derived.Deep.Cut
set_option maxRecDepth 100000
set_option maxHeartbeats 8000000
set_option linter.unusedVariables false
set_option linter.unusedSimpArgs false
namespace Go.Proofs.YthhijfphfcmniaaGreat
section
open Go Go.RowKit
theorem spl_isB (n s : Int) (hr : rightB n s = true) : isB (spl n s) := by
  simp only [rightB, Bool.and_eq_true, decide_eq_true_eq] at hr
  obtain ⟨hs, h0, h1⟩ := hr
  rcases szB_true hs with rfl | rfl | rfl
  · intro z hz; simp [spl] at hz; omega
  · intro z hz; simp [spl] at hz; omega
  · have h1 : n < 4294967296 := by simpa [lim] using h1
    intro z hz; simp [spl] at hz; omega
abbrev BK := Int × Int × Int × List A11
theorem AB.k4 {w : World} {g : Nat} {ty : TypeId} {a b c d : Value} (h : AB w g ty [a, b, c, d]) : w.cell? ⟨g, 0, none⟩ = some a ∧ w.cell? ⟨g, 1, none⟩ = some b ∧ w.cell? ⟨g, 2, none⟩ = some c ∧ w.cell? ⟨g, 3, none⟩ = some d ∧ w.frozen? ⟨g, 0, none⟩ = false ∧ w.frozen? ⟨g, 1, none⟩ = false ∧ w.frozen? ⟨g, 2, none⟩ = false ∧ w.frozen? ⟨g, 3, none⟩ = false :=
  ⟨(h.cell (j := 0) rfl).1, (h.cell (j := 1) rfl).1, (h.cell (j := 2) rfl).1, (h.cell (j := 3) rfl).1, (h.cell (j := 0) rfl).2, (h.cell (j := 1) rfl).2, (h.cell (j := 2) rfl).2, (h.cell (j := 3) rfl).2⟩
def encR (L : List A11) (B : List Int) (er : Int) : Prop := (L.length ≤ 100 ∧ L.all artO = true ∧ B = encA L ∧ er = 0) ∨ (¬ (L.length ≤ 100 ∧ L.all artO = true) ∧ B = [] ∧ er = 1)
theorem encR_some (L : List A11) : ∃ B er, encR L B er := by
  by_cases h : L.length ≤ 100 ∧ L.all artO = true
  · exact ⟨_, _, .inl ⟨h.1, h.2, rfl, rfl⟩⟩
  · exact ⟨_, _, .inr ⟨h, rfl, rfl⟩⟩
theorem own_nilB (w : World) (base : Nat) : OwnB w base (.slice none 0 0) [] := ⟨World.ownsRow_nil _ _ _ _, fun z hz => by cases hz⟩
theorem le_all {v : Value} {L : List A11} {B : List Int} {er : Int} {w : World} (hL : ActAt w v L) (hF : AFit L) (h : encR L B er) : Calls Tryz.prog 49 #[v] w fun e w' => ∃ r, e = .returned (.tuple #[r, .int .i64 er]) ∧ OwnB w' w.heap.size r B ∧ Below w.heap.size w w' := by
  rcases h with ⟨h1, h2, rfl, rfl⟩ | ⟨h, rfl, rfl⟩
  · exact le_yes v L w hL hF h1 h2
  · have key : ∀ (e : Ending) (w' : World), e = .returned (.tuple #[.slice none 0 0, .int .i64 1]) ∧ Below w.heap.size w w' → ∃ r, e = .returned (.tuple #[r, .int .i64 1]) ∧ OwnB w' w.heap.size r [] ∧ Below w.heap.size w w' := fun e w' he => ⟨_, he.1, own_nilB _ _, he.2⟩
    by_cases h100 : L.length ≤ 100
    · have h3 : L.all artO = false := by
        cases hh : L.all artO
        · rfl
        · exact absurd ⟨h100, hh⟩ h
      exact (le_no v L w hL hF h100 h3).mono key
    · exact (le_big v L w hL (by omega)).mono key
theorem encA_6000 {L : List A11} (hF : AFit L) (h1 : L.length ≤ 100) (h2 : L.all artO = true) : (encA L).length ≤ 6000 := by
  have := encA_len L hF h2
  omega
theorem put_ownK (v : Value) (l : List Int) (n s : Int) (w : World) (hB : Bytes w v l) (hl : l.length ≤ 1000) (hr : rightB n s = true) (hs : isB (spl n s)) :
    Calls Tryz.prog 73 #[v, .int .i64 n, .int .i64 s] w fun e w' => ∃ r, e = .returned r ∧ OwnB w' w.heap.size r (l ++ spl n s) ∧ Below w.heap.size w w' :=
  (put_any v l n s w hB (by omega) hr).mono fun e w' ⟨r, h1, h2, h3⟩ => ⟨r, h1, ⟨h2, by
    obtain ⟨_, _, _, _, _, hb, _⟩ := hB
    exact hb.app hs⟩, h3⟩
theorem own_sliceB {w : World} {base : Nat} {v : Value} {l : List Int} (h : OwnB w base v l) : ∃ s c, v = .slice s l.length c := by
  rcases h.1.2 with ⟨rfl, hn⟩ | ⟨g, cap, cur, rfl, _⟩
  · exact ⟨none, 0, by rw [hn]⟩
  · exact ⟨_, _, rfl⟩
def BuckAt (w : World) (v : Value) (L : List BK) : Prop := ∃ s cap, v = .slice s L.length cap ∧ L.length ≤ cap ∧ cap ≤ maxLen ∧ (s = none → cap = 0) ∧
  ∀ (i : Nat) (o : BK), L[i]? = some o → ∃ q off u, s = some ⟨q, off, none⟩ ∧ w.cell? ⟨q, off + i * 4, none⟩ = some (.int .i64 o.1) ∧ w.cell? ⟨q, off + i * 4 + 1, none⟩ = some (.int .i64 o.2.1) ∧ w.cell? ⟨q, off + i * 4 + 2, none⟩ = some (.int .i64 o.2.2.1) ∧ w.cell? ⟨q, off + i * 4 + 3, none⟩ = some u ∧ ActAt w u o.2.2.2
theorem BuckAt.later {w w' : World} {v : Value} {L : List BK} (h : BuckAt w v L) (hb : Below w.heap.size w w') : BuckAt w' v L := by
  obtain ⟨s, cap, rfl, h1, h2, h3, h4⟩ := h
  refine ⟨s, cap, rfl, h1, h2, h3, fun i o hi => ?_⟩
  obtain ⟨q, off, u, e, x0, x1, x2, x3, hu⟩ := h4 i o hi
  exact ⟨q, off, u, e, cell_later hb x0, cell_later hb x1, cell_later hb x2, cell_later hb x3, hu.later hb⟩
theorem BuckAt.nil (w : World) : BuckAt w (.slice none 0 0) [] := ⟨none, 0, rfl, Nat.le_refl _, Nat.zero_le _, fun _ => rfl, fun i o h => by simp at h⟩
theorem isB_dropK {l : List Int} (h : isB l) (n : Nat) : isB (l.drop n) := fun z hz => h z (List.mem_of_mem_drop hz)
theorem isB_takeK {l : List Int} (h : isB l) (n : Nat) : isB (l.take n) := fun z hz => h z (List.mem_of_mem_take hz)
/-! a list of buckets that is one's own -/
abbrev PB := BK × Value
def bcl (p : PB) : List Value := [.int .i64 p.1.1, .int .i64 p.1.2.1, .int .i64 p.1.2.2.1, p.2]
def bds (P : List PB) : List Value := P.flatMap bcl
theorem bds_snoc (P : List PB) (p : PB) : bds (P ++ [p]) = bds P ++ bcl p := by simp [bds]
theorem bds_at {P : List PB} {i j : Nat} {p : PB} (h : P[i]? = some p) (hj : j < 4) : (bds P)[i * 4 + j]? = (bcl p)[j]? := by
  induction P generalizing i with
  | nil => simp at h
  | cons x r ih =>
    cases i with
    | zero =>
      simp at h
      subst h
      unfold bds
      rw [List.flatMap_cons, List.getElem?_append_left (by simp [bcl]; omega)]
      simp
    | succ i =>
      have := ih (i := i) (by simpa using h)
      unfold bds at *
      rw [List.flatMap_cons, List.getElem?_append_right (by simp [bcl]; omega)]
      have e : (i + 1) * 4 + j - (bcl x).length = i * 4 + j := by simp [bcl]; omega
      rw [e]
      exact this
def BRow (w : World) (base : Nat) (u : Value) (P : List PB) : Prop := w.ownsRow base 87 4 u P.length (bds P) ∧ ∀ p ∈ P, w.ownsRow base 61 11 p.2 p.1.2.2.2.length (ads p.1.2.2.2)
theorem BRow.later {w w' : World} {base : Nat} {u : Value} {P : List PB} (h : BRow w base u P) (hb : Below w.heap.size w w') : BRow w' base u P := ⟨ownr_later h.1 hb, fun p hp => ownr_later (h.2 p hp) hb⟩
theorem BRow.nil (w : World) (base : Nat) : BRow w base (.slice none 0 0) [] := ⟨World.ownsRow_nil _ _ _ _, fun p hp => by cases hp⟩
theorem BRow.far3 {w : World} {base g : Nat} {u : Value} {P : List PB} (h : BRow w base u P) (hg : g < base) (x y z : Value) : BRow (((w.setCell ⟨g, 0, none⟩ x).setCell ⟨g, 1, none⟩ y).setCell ⟨g, 2, none⟩ z) base u P :=
  ⟨far3row h.1 hg x y z, fun p hp => far3row (h.2 p hp) hg x y z⟩
theorem own_grownK {w w' : World} {base base2 : Nat} {e e2 : TypeId} {size s2 : Nat} {v v2 : Value} {n n2 : Nat} {xs x2 : List Value} (h : w.ownsRow base e size v n xs) (h2 : w.ownsRow base2 e2 s2 v2 n2 x2) (hne : e ≠ e2) (hg : w.grownBy w' v2.ownBlock) : w'.ownsRow base e size v n xs := by
  refine ⟨h.1, ?_⟩
  rcases h.2 with k | ⟨g, cap, cur, rfl, hb, hk, r⟩
  · exact .inl k
  · refine .inr ⟨g, cap, cur, rfl, hb, ?_, r⟩
    rcases h2.2 with ⟨rfl, -⟩ | ⟨g2, cap2, cur2, rfl, -, hk2, -⟩
    · rw [hg.block g (Array.getElem?_eq_some_iff.1 hk).1 (fun e => by cases e)]
      exact hk
    · have hn : g ≠ g2 := by
        rintro rfl
        rw [hk] at hk2
        simp at hk2
        exact hne hk2.2
      rw [hg.block g (Array.getElem?_eq_some_iff.1 hk).1 (fun e => by injection e with e; exact hn e)]
      exact hk
theorem BRow.push {w0 w' : World} {base : Nat} {u u' : Value} {P : List PB} {p : PB} (h : BRow w0 base u P) (hp : w0.ownsRow base 61 11 p.2 p.1.2.2.2.length (ads p.1.2.2.2)) (ho : w'.ownsRow base 87 4 u' (P.length + 1) (bds P ++ bcl p)) (hg : (w0.alloc (.cells (bcl p).toArray 87)).grownBy w' u.ownBlock) : BRow w' base u' (P ++ [p]) := by
  have hr := ownr_later h.1 (below1 w0 (.cells (bcl p).toArray 87))
  refine ⟨by rw [List.length_append, bds_snoc]; exact ho, fun q hq => ?_⟩
  have key : ∀ q : PB, w0.ownsRow base 61 11 q.2 q.1.2.2.2.length (ads q.1.2.2.2) → w'.ownsRow base 61 11 q.2 q.1.2.2.2.length (ads q.1.2.2.2) := fun q hq => own_grownK (ownr_later hq (below1 w0 _)) hr (by decide) hg
  rcases List.mem_append.1 hq with hq | hq
  · exact key q (h.2 q hq)
  · rw [List.mem_singleton] at hq
    subst hq
    exact key _ hp
theorem BRow.at_ {w : World} {base : Nat} {u : Value} {P : List PB} (h : BRow w base u P) : BuckAt w u (P.map (·.1)) := by
  rcases h.1.2 with ⟨rfl, h0⟩ | ⟨g, cap, cur, rfl, hb, hg, h1, h2, h3, h4⟩
  · have e : P = [] := List.eq_nil_of_length_eq_zero h0
    subst e
    exact BuckAt.nil w
  · have hc := h.1.cells (g := g) rfl
    refine ⟨some ⟨g, 0, none⟩, cap, by rw [List.length_map], by rw [List.length_map]; exact h1, h2, (fun e => by cases e), fun i o hi => ?_⟩
    rw [List.getElem?_map] at hi
    obtain ⟨p, hp, rfl⟩ := Option.map_eq_some_iff.1 hi
    have k : ∀ j x, (bcl p)[j]? = some x → j < 4 → w.cell? ⟨g, 0 + i * 4 + j, none⟩ = some x := fun j x hx hj => by
      have := hc (i * 4 + j) x (by rw [bds_at hp hj]; exact hx)
      rw [Addr.add_lit] at this
      simpa [Nat.add_assoc] using this
    exact ⟨g, 0, p.2, rfl, k 0 _ rfl (by omega), k 1 _ rfl (by omega), k 2 _ rfl (by omega), k 3 _ rfl (by omega), ActAt.ofOwn (h.2 p (List.mem_of_getElem? hp))⟩
def a15 : A11 := (0, 3, 0, 0, 0, 0, false, 0, 0, 0, 0)
end
end Go.Proofs.YthhijfphfcmniaaGreat
