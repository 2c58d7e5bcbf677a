import Derived.Test.YtadgppedodlgmaaAb
import Derived.Test.YtadgppedodlgmaaJK
import Derived.Test.YtadgppedodlgmaaAf
import Derived.Deep.RegionHeld3
import Derived.Deep.RegionWith
import Derived.Deep.MidRow
import Derived.Deep.Cut
import Derived.Test.YtadgppedodlgmaaXi
import Derived.Test.YtadgppedodlgmaaZz
import Derived.Test.YtadgppedodlgmaaOz
import Derived.Deep.QuietTactic
import Derived.BigQuiet
import Derived.WalkSmall
import Derived.Deep.RegionLawGrows
import Derived.WalkKit
import Derived.WalkSpells
import Derived.WalkLawsBesides
import Derived.Below
import Derived.Handy
namespace Go.Proofs.Ytadgppedodlgmaa
section
open Go Go.RowKit
set_option linter.unusedVariables false
set_option linter.unusedSimpArgs false

abbrev A11 := Int × Int × Int × Int × Int × Int × Bool × Nat × Nat × Nat × Nat
def acl (o : A11) : List Value := [.int .i64 o.1, .int .i64 o.2.1, .int .i64 o.2.2.1, .int .i64 o.2.2.2.1, .int .i64 o.2.2.2.2.1, .int .i64 o.2.2.2.2.2.1, .bool o.2.2.2.2.2.2.1, .int .u64 (o.2.2.2.2.2.2.2.1 : Int), .int .u64 (o.2.2.2.2.2.2.2.2.1 : Int), .int .u64 (o.2.2.2.2.2.2.2.2.2.1 : Int), .int .u64 (o.2.2.2.2.2.2.2.2.2.2 : Int)]
def ads (L : List A11) : List Value := L.flatMap acl
theorem acl_len (o : A11) : (acl o).length = 11 := rfl
theorem ads_length (L : List A11) : (ads L).length = L.length * 11 := by
  induction L with
  | nil => rfl
  | cons o r ih => simp [ads, acl] at ih ⊢; omega
theorem ads_at {L : List A11} {i j : Nat} {o : A11} (h : L[i]? = some o) (hj : j < 11) : (ads L)[i * 11 + j]? = (acl o)[j]? := by
  induction L generalizing i with
  | nil => simp at h
  | cons x r ih =>
    cases i with
    | zero =>
      simp at h
      subst h
      unfold ads
      rw [List.flatMap_cons, List.getElem?_append_left (by simp [acl]; omega)]
      simp
    | succ i =>
      have := ih (i := i) (by simpa using h)
      unfold ads at *
      rw [List.flatMap_cons, List.getElem?_append_right (by simp [acl]; omega)]
      have e : (i + 1) * 11 + j - (acl x).length = i * 11 + j := by simp [acl]; omega
      rw [e]
      exact this
theorem ads_snoc (L : List A11) (o : A11) : ads (L ++ [o]) = ads L ++ acl o := by simp [ads]
theorem ads_app (L K : List A11) : ads (L ++ K) = ads L ++ ads K := by simp [ads]
theorem acl_one (o : A11) : ∀ u ∈ acl o, u.oneCell' = true := by
  intro u hu
  simp only [acl, List.mem_cons, List.not_mem_nil, or_false] at hu
  rcases hu with rfl | rfl | rfl | rfl | rfl | rfl | rfl | rfl | rfl | rfl | rfl <;> rfl
theorem ads_one (L : List A11) : ∀ u ∈ ads L, u.oneCell' = true := by
  intro u hu
  obtain ⟨o, _, h⟩ := List.mem_flatMap.1 hu
  exact acl_one o u h
/-- a slice of actions -/
def ActAt (w : World) (v : Value) (L : List A11) : Prop := ∃ s cap, v = .slice s L.length cap ∧ L.length ≤ cap ∧ cap ≤ maxLen ∧ (s = none → cap = 0) ∧
    ∀ (i : Nat) (o : A11), L[i]? = some o → ∃ q off, s = some ⟨q, off, none⟩ ∧ ∀ j u, (acl o)[j]? = some u → w.cell? ⟨q, off + i * 11 + j, none⟩ = some u
theorem ActAt.later {w w' : World} {v : Value} {L : List A11} (h : ActAt w v L) (hb : Below w.heap.size w w') : ActAt w' v L := by
  obtain ⟨s, cap, rfl, h1, h2, h3, h4⟩ := h
  refine ⟨s, cap, rfl, h1, h2, h3, fun i o hi => ?_⟩
  obtain ⟨q, off, e, hc⟩ := h4 i o hi
  exact ⟨q, off, e, fun j u hu => cell_later hb (hc j u hu)⟩
theorem ActAt.nil (w : World) : ActAt w (.slice none 0 0) [] := ⟨none, 0, rfl, Nat.le_refl _, Nat.zero_le _, fun _ => rfl, fun i o h => by simp at h⟩
theorem ActAt.ofOwn {w : World} {base : Nat} {e : TypeId} {v : Value} {L : List A11} (h : w.ownsRow base e 11 v L.length (ads L)) : ActAt w v L := by
  rcases h.2 with ⟨rfl, h0⟩ | ⟨g, cap, cur, rfl, hb, hg, h1, h2, h3, h4⟩
  · have e : L = [] := List.eq_nil_of_length_eq_zero h0
    subst e
    exact ActAt.nil w
  · have hc := h.cells (g := g) rfl
    refine ⟨some ⟨g, 0, none⟩, cap, rfl, h1, h2, (fun e => by cases e), fun i o hi => ⟨g, 0, rfl, ?_⟩⟩
    intro j u hu
    have hj : j < 11 := by have := (List.getElem?_eq_some_iff.1 hu).1; simpa [acl] using this
    have := hc (i * 11 + j) u (by rw [ads_at hi hj]; exact hu)
    rw [Addr.add_lit] at this
    simpa [Nat.add_assoc] using this
theorem act11 {w : World} {s : Option Addr} {L : List A11} (H : ∀ (i : Nat) (o : A11), L[i]? = some o → ∃ q off, s = some ⟨q, off, none⟩ ∧ ∀ j u, (acl o)[j]? = some u → w.cell? ⟨q, off + i * 11 + j, none⟩ = some u)
    {i : Nat} {k p x q y f : Int} {m : Bool} {a b c d : Nat} (hi : L[i]? = some (k, p, x, q, y, f, m, a, b, c, d)) : ∃ q' off, s = some ⟨q', off, none⟩ ∧ w.cell? ⟨q', off + i * 11, none⟩ = some (.int .i64 k) ∧ w.cell? ⟨q', off + i * 11 + 1, none⟩ = some (.int .i64 p) ∧ w.cell? ⟨q', off + i * 11 + 2, none⟩ = some (.int .i64 x) ∧ w.cell? ⟨q', off + i * 11 + 3, none⟩ = some (.int .i64 q) ∧ w.cell? ⟨q', off + i * 11 + 4, none⟩ = some (.int .i64 y) ∧ w.cell? ⟨q', off + i * 11 + 5, none⟩ = some (.int .i64 f) ∧ w.cell? ⟨q', off + i * 11 + 6, none⟩ = some (.bool m) ∧ w.cell? ⟨q', off + i * 11 + 7, none⟩ = some (.int .u64 (a : Int)) ∧ w.cell? ⟨q', off + i * 11 + 8, none⟩ = some (.int .u64 (b : Int)) ∧ w.cell? ⟨q', off + i * 11 + 9, none⟩ = some (.int .u64 (c : Int)) ∧ w.cell? ⟨q', off + i * 11 + 10, none⟩ = some (.int .u64 (d : Int)) := by
  obtain ⟨q', off, e, hc⟩ := H i _ hi
  exact ⟨q', off, e, hc 0 _ rfl, hc 1 _ rfl, hc 2 _ rfl, hc 3 _ rfl, hc 4 _ rfl, hc 5 _ rfl, hc 6 _ rfl, hc 7 _ rfl, hc 8 _ rfl, hc 9 _ rfl, hc 10 _ rfl⟩
theorem ActAt.slice {w : World} {v : Value} {L : List A11} (h : ActAt w v L) : ∃ s cap, v = .slice s L.length cap ∧ L.length ≤ maxLen := by
  obtain ⟨s, cap, rfl, h1, h2, h3, h4⟩ := h
  exact ⟨s, cap, rfl, by omega⟩
/-- numbers that fit -/
def AFit (L : List A11) : Prop := ∀ (k p x q y f : Int) (m : Bool) (a b c d : Nat), (k, p, x, q, y, f, m, a, b, c, d) ∈ L → a < 18446744073709551616 ∧ b < 18446744073709551616 ∧ c < 18446744073709551616 ∧ d < 18446744073709551616
def artO (o : A11) : Bool := art o.1 o.2.1 o.2.2.1 o.2.2.2.1 o.2.2.2.2.1 o.2.2.2.2.2.1 o.2.2.2.2.2.2.1 o.2.2.2.2.2.2.2.1 o.2.2.2.2.2.2.2.2.1 o.2.2.2.2.2.2.2.2.2.1 o.2.2.2.2.2.2.2.2.2.2
def aencO (o : A11) : List Int := aencL o.1 o.2.1 o.2.2.1 o.2.2.2.1 o.2.2.2.2.1 o.2.2.2.2.2.1 o.2.2.2.2.2.2.1 o.2.2.2.2.2.2.2.1 o.2.2.2.2.2.2.2.2.1 o.2.2.2.2.2.2.2.2.2.1 o.2.2.2.2.2.2.2.2.2.2
def encA (L : List A11) : List Int := L.flatMap aencO
theorem encA_snoc (L : List A11) (o : A11) : encA (L ++ [o]) = encA L ++ aencO o := by simp [encA]
theorem encA_app (L K : List A11) : encA (L ++ K) = encA L ++ encA K := by simp [encA]
theorem AFit.tail {o : A11} {r : List A11} (h : AFit (o :: r)) : AFit r := fun k p x q y f m a b c d hi => h k p x q y f m a b c d (by simp [hi])
theorem artO_true {o : A11} (h : artO o = true) : art o.1 o.2.1 o.2.2.1 o.2.2.2.1 o.2.2.2.2.1 o.2.2.2.2.2.1 o.2.2.2.2.2.2.1 o.2.2.2.2.2.2.2.1 o.2.2.2.2.2.2.2.2.1 o.2.2.2.2.2.2.2.2.2.1 o.2.2.2.2.2.2.2.2.2.2 = true := h
theorem aenc_len {k p x q y f : Int} {m : Bool} {a b c d : Nat} (ha : a < 18446744073709551616) (hb : b < 18446744073709551616) (hc : c < 18446744073709551616) (hd : d < 18446744073709551616) (h : art k p x q y f m a b c d = true) : (aencL k p x q y f m a b c d).length ≤ 60 ∧ (aencL k p x q y f m a b c d).length % 8 = 0 ∧ 8 ≤ (aencL k p x q y f m a b c d).length := by
  have h1 := bodyL_le k p x q y f m a b c d
  have h2 := r8_ge (4 + (bodyL k p x q y f m a b c d).length)
  have h3 := r8_le (4 + (bodyL k p x q y f m a b c d).length)
  have e : (aencL k p x q y f m a b c d).length = r8 (4 + (bodyL k p x q y f m a b c d).length) := by
    unfold aencL
    simp only [List.length_append, spl_len2, List.length_replicate]
    omega
  have h4 : r8 (4 + (bodyL k p x q y f m a b c d).length) % 8 = 0 := by unfold r8; omega
  exact ⟨by omega, by omega, by omega⟩
theorem encA_len : ∀ (L : List A11), AFit L → L.all artO = true → (encA L).length ≤ L.length * 60
  | [], _, _ => by simp [encA]
  | (k, p, x, q, y, f, m, a, b, c, d) :: r, hF, hr => by
    have hr' : art k p x q y f m a b c d = true ∧ r.all artO = true := by
      rw [List.all_cons, Bool.and_eq_true] at hr
      exact hr
    obtain ⟨g1, g2, g3, g4⟩ := hF k p x q y f m a b c d (by simp)
    have h1 := (aenc_len g1 g2 g3 g4 hr'.1).1
    have h2 := encA_len r hF.tail hr'.2
    have e : encA ((k, p, x, q, y, f, m, a, b, c, d) :: r) = aencL k p x q y f m a b c d ++ encA r := by simp [encA, aencO]
    rw [e, List.length_append, List.length_cons]
    omega
theorem take_sameA {L K : List A11} {k : Nat} {x y : A11} (h : L.take k = K.take k) (hx : L[k]? = some x) (hy : K[k]? = some y) (e : x = y) : L.take (k + 1) = K.take (k + 1) := by
  rw [List.take_add_one, List.take_add_one, h, hx, hy, e]
theorem take_diffA {L K : List A11} {k : Nat} {x y : A11} (hx : L[k]? = some x) (hy : K[k]? = some y) (e : ¬ x = y) : ¬ L = K := by
  intro h
  rw [h, hy] at hx
  injection hx with hx
  exact e hx.symm
theorem sameB_true (k p x q y f : Int) (m : Bool) (a b c d : Nat) (k2 p2 x2 q2 y2 f2 : Int) (m2 : Bool) (a2 b2 c2 d2 : Nat) (h : sameB k p x q y f m a b c d k2 p2 x2 q2 y2 f2 m2 a2 b2 c2 d2 = true) : ((k, p, x, q, y, f, m, a, b, c, d) : A11) = (k2, p2, x2, q2, y2, f2, m2, a2, b2, c2, d2) := by
  unfold sameB at h
  simp only [Bool.and_eq_true, decide_eq_true_eq, Prod.mk.injEq] at h
  obtain ⟨rfl, rfl, rfl, rfl, rfl, rfl, rfl, rfl, rfl, rfl, rfl⟩ := h
  rfl
theorem sameB_refl (k p x q y f : Int) (m : Bool) (a b c d : Nat) : sameB k p x q y f m a b c d k p x q y f m a b c d = true := by
  unfold sameB
  simp
theorem sameB_false (k p x q y f : Int) (m : Bool) (a b c d : Nat) (k2 p2 x2 q2 y2 f2 : Int) (m2 : Bool) (a2 b2 c2 d2 : Nat) (h : sameB k p x q y f m a b c d k2 p2 x2 q2 y2 f2 m2 a2 b2 c2 d2 = false) : ¬ ((k, p, x, q, y, f, m, a, b, c, d) : A11) = (k2, p2, x2, q2, y2, f2, m2, a2, b2, c2, d2) := by
  intro e
  simp only [Prod.mk.injEq] at e
  obtain ⟨rfl, rfl, rfl, rfl, rfl, rfl, rfl, rfl, rfl, rfl, rfl⟩ := e
  rw [sameB_refl] at h
  cases h
def sameO (x y : A11) : Bool := sameB x.1 x.2.1 x.2.2.1 x.2.2.2.1 x.2.2.2.2.1 x.2.2.2.2.2.1 x.2.2.2.2.2.2.1 x.2.2.2.2.2.2.2.1 x.2.2.2.2.2.2.2.2.1 x.2.2.2.2.2.2.2.2.2.1 x.2.2.2.2.2.2.2.2.2.2 y.1 y.2.1 y.2.2.1 y.2.2.2.1 y.2.2.2.2.1 y.2.2.2.2.2.1 y.2.2.2.2.2.2.1 y.2.2.2.2.2.2.2.1 y.2.2.2.2.2.2.2.2.1 y.2.2.2.2.2.2.2.2.2.1 y.2.2.2.2.2.2.2.2.2.2
def sameL : List A11 → List A11 → Bool
  | [], [] => true
  | x :: r, y :: t => sameO x y && sameL r t
  | _, _ => false
theorem sameL_refl : ∀ L : List A11, sameL L L = true
  | [] => rfl
  | x :: r => by
    have h1 : sameO x x = true := sameB_refl _ _ _ _ _ _ _ _ _ _ _
    simp [sameL, h1, sameL_refl r]
theorem sameL_true {L K : List A11} (h : L = K) : sameL L K = true := by rw [h]; exact sameL_refl K
theorem sameL_eq : ∀ {L K : List A11}, sameL L K = true → L = K
  | [], [], _ => rfl
  | [], y :: t, h => by simp [sameL] at h
  | x :: r, [], h => by simp [sameL] at h
  | x :: r, y :: t, h => by
    simp only [sameL, Bool.and_eq_true] at h
    have e1 : x = y := sameB_true _ _ _ _ _ _ _ _ _ _ _ _ _ _ _ _ _ _ _ _ _ _ h.1
    rw [e1, sameL_eq h.2]
theorem sameL_false {L K : List A11} (h : ¬ L = K) : sameL L K = false := by
  cases e : sameL L K
  · rfl
  · exact absurd (sameL_eq e) h
end

section
open Go Go.RowKit
set_option linter.unusedVariables false
set_option linter.unusedSimpArgs false

theorem take_succ_same {l m : List Int} {k : Nat} {z : Int} (h : l.take k = m.take k) (h1 : l[k]? = some z) (h2 : m[k]? = some z) : l.take (k + 1) = m.take (k + 1) := by
  rw [List.take_add_one, List.take_add_one, h, h1, h2]

theorem beq_diff {l m : List Int} {k : Nat} {z y : Int} (h1 : l[k]? = some z) (h2 : m[k]? = some y) (h : ¬ z = y) : (l == m) = false := by
  simp only [beq_eq_false_iff_ne, ne_eq]
  intro e
  subst e
  rw [h1] at h2
  cases h2
  exact h rfl

theorem clone_any (v : Value) (l : List Int) (w : World) (hB : Bytes w v l) (hl : l.length ≤ 100000000000000) :
    Calls Try.prog 23 #[v] w fun e w' => ∃ r, e = .returned r ∧ w'.ownsRow w.heap.size 5 1 r l.length (u8s l) ∧ Below w.heap.size w w' := by
  obtain ⟨a, cap, rfl, h1, h2, h3, h4, h5⟩ := hB
  cases a with
  | none =>
    have hc := h4 rfl
    subst hc
    have hl : l = [] := List.eq_nil_of_length_eq_zero (by omega)
    subst hl
    simp only [List.length_nil]
    clear h1 h2 h3 h4 h5
    have hn := fun wx => Lib.run_eql_slice_nil (P := Try.prog) wx 24 5 none 0 0 0 0 Try.underlying24
    go_enter Try.func23, Try.ntmps23
    go_wp2
    go_ret
    exact ⟨_, rfl, World.ownsRow_nil _ _ _ _, Below.refl _ _⟩
  | some ad =>
    have hn := fun wx => Lib.run_eql_slice_nil (P := Try.prog) wx 24 5 (some ad) l.length cap 0 0 Try.underlying24
    have HB : Hid (Bytes w (.slice (some ad) l.length cap) l) := ⟨_, _, rfl, h1, h2, h3, h4, h5⟩
    clear h3 h4 h5
    unfold maxLen at h2
    obtain ⟨i0, hi0, hz0, hz1, hz2⟩ := info_parts info5
    have HI : Hid (Try.prog.info? 5 = some i0 ∧ i0.zero = some (.int .u8 0) ∧ i0.size = 1 ∧ i0.bytes = 1) := ⟨hi0, hz0, hz1, hz2⟩
    clear hi0 hz0 hz1 hz2
    go_enter Try.func23, Try.ntmps23
    go_wp2_with (at_builtin; refine wpList_append_ownB rfl (.tmp 5) (.tmp 6) 24 rfl w.heap.size 5 i0 Try.underlying24 HI.out.1 HI.out.2.1 HI.out.2.2.1 HI.out.2.2.2 (.slice (some ⟨w.heap.size, 0, none⟩) 0 0) 0 [] (by simp [Act.eval, Act.put]) (World.ownsRow_made w #[] 0 (Nat.le_refl _) (Nat.zero_le _) rfl) (.slice (some ad) l.length cap) l (by simp [Act.eval, Act.put]) (HB.out.later (by go_grown)) (by omega) (by simp) ?_; intro v' w' hown hg)
    go_ret
    exact ⟨_, rfl, by simpa using hown, (by go_grown : Below w.heap.size w (w.alloc (.cells #[] 5))).trans (below_grown hg _ (by simp) (by simp [Value.ownBlock]))⟩

theorem equal_len (a a' : Option Addr) (n n' cap cap' : Nat) (w : World) (h : n ≠ n') :
    Calls Try.prog 10 #[.slice a n cap, .slice a' n' cap'] w fun e w' => e = .returned (.bool false) ∧ w = w' := by
  have h1 : ((n : Int) != (n' : Int)) = true := by simp; omega
  go_enter Try.func10, Try.ntmps10
  go_wp2
  go_ret
  exact ⟨rfl, rfl⟩

theorem equal_same (ad ad' : Option Addr) (cap cap' : Nat) (l m : List Int) (w : World) (hn : l.length = m.length) (hm : l.length ≤ maxLen)
    (hl : isB l) (hm' : isB m)
    (h : ∀ j z, l[j]? = some z → ∃ b off, ad = some ⟨b, off, none⟩ ∧ w.cell? ⟨b, off + j, none⟩ = some (.int .u8 z))
    (h' : ∀ j z, m[j]? = some z → ∃ b off, ad' = some ⟨b, off, none⟩ ∧ w.cell? ⟨b, off + j, none⟩ = some (.int .u8 z)) :
    Calls Try.prog 10 #[.slice ad l.length cap, .slice ad' m.length cap'] w fun e w' => e = .returned (.bool (l == m)) ∧ Below w.heap.size w w' := by
  unfold maxLen at hm
  have H : Hid _ := h
  have H' : Hid _ := h'
  clear h h'
  rw [← hn]
  have HN : Hid _ := hn
  clear hn
  have h1 : ((l.length : Int) != (l.length : Int)) = false := by simp
  have HE : Hid ((l == m) = (l == m)) := rfl
  generalize hE : (l == m) = E at *
  have HEE : Hid _ := hE
  clear hE HE
  go_enter Try.func10, Try.ntmps10
  go_wp2
  go_loopw [13] (fun i wr => ∃ k : Nat, k ≤ l.length ∧ i = .int .i64 k ∧ Hid (l.take k = m.take k) ∧ Below w.heap.size w wr) (fun i _ => l.length - (intOf i).toNat)
  case atStart => exact ⟨0, Nat.zero_le _, rfl, rfl, Below.refl _ _⟩
  case round =>
    obtain ⟨k, hk, rfl, HT, hb⟩ := hrel
    by_cases hlt : k < l.length
    · obtain ⟨z, hz⟩ : ∃ z, l[k]? = some z := ⟨_, List.getElem?_eq_getElem hlt⟩
      obtain ⟨y, hy⟩ : ∃ y, m[k]? = some y := ⟨_, List.getElem?_eq_getElem (by have := HN.out; omega)⟩
      obtain ⟨b, off, rfl, c1⟩ := H.out k z hz
      obtain ⟨b', off', rfl, c2⟩ := H'.out k y hy
      have c1 := cell_later hb c1
      have c2 := cell_later hb c2
      have HZ : Hid _ := hz
      have HY : Hid _ := hy
      clear hz hy
      have hlt' : (k : Int) < (l.length : Int) := by omega
      by_cases hzy : z = y
      · have hne : (z != y) = false := by simpa using hzy
        have HZY : Hid _ := hzy
        clear hzy
        go_wp2_with fail
        go_quiet (fail)
        go_wp2
        go_roundw
        case rel => exact ⟨k + 1, by omega, by go_num, take_succ_same HT.out HZ.out (by rw [HY.out, HZY.out]), below_drewN hb nq⟩
        case measure => simp [intOf]; omega
      · have hne : (z != y) = true := by simpa using hzy
        have HZY : Hid _ := hzy
        clear hzy
        go_wp2_with fail
        go_quiet (fail)
        go_wp2
        go_ret
        exact ⟨by rw [← HEE.out, beq_diff HZ.out HY.out HZY.out]; rfl, below_drewN hb _⟩
    · have hlt' : ¬ (k : Int) < (l.length : Int) := by omega
      go_wp2
      go_ret
      refine ⟨?_, hb⟩
      have : l = m := by
        have e := HT.out
        rw [List.take_of_length_le (by omega), List.take_of_length_le (by have := HN.out; omega)] at e
        exact e
      rw [← HEE.out, this]
      simp

theorem equal_any (v u : Value) (l m : List Int) (w : World) (h : Bytes w v l) (k : Bytes w u m) :
    Calls Try.prog 10 #[v, u] w fun e w' => e = .returned (.bool (l == m)) ∧ Below w.heap.size w w' := by
  have h0 := h
  have k0 := k
  obtain ⟨a, cap, rfl, _⟩ := h
  obtain ⟨a', cap', rfl, _⟩ := k
  obtain ⟨_, h2, h3, h4⟩ := h0.at
  obtain ⟨_, k2, k3, k4⟩ := k0.at
  by_cases hn : l.length = m.length
  · exact equal_same a a' cap cap' l m w hn h2 h3 k3 h4 k4
  · refine (equal_len a a' l.length m.length cap cap' w hn).mono fun e w' ⟨he, hw⟩ => ?_
    subst hw
    have : (l == m) = false := by
      simp only [beq_eq_false_iff_ne, ne_eq]
      intro e; exact hn (by rw [e])
    rw [this]
    exact ⟨he, Below.refl _ _⟩

def Cells (w : World) (v : Value) (size n : Nat) (xs : List Value) : Prop :=
  xs.length = n * size ∧ ∃ a cap, v = .slice a n cap ∧ n ≤ cap ∧ cap ≤ maxLen ∧ (a = none → cap = 0) ∧ ∀ ad, a = some ad → ∀ j u, xs[j]? = some u → w.cell? (ad.add j) = some u

theorem Cells.later {w w' : World} {v : Value} {size n : Nat} {xs : List Value} (h : Cells w v size n xs) (hb : Below w.heap.size w w') : Cells w' v size n xs := by
  obtain ⟨h0, a, cap, rfl, h1, h2, h3, h4⟩ := h
  exact ⟨h0, a, cap, rfl, h1, h2, h3, fun ad e j u hu => cell_later hb (h4 ad e j u hu)⟩

theorem Cells.ofOwn {w : World} {base : Nat} {e : TypeId} {v : Value} {size n : Nat} {xs : List Value} (h : w.ownsRow base e size v n xs) : Cells w v size n xs := by
  refine ⟨h.1, ?_⟩
  rcases h.2 with ⟨rfl, rfl⟩ | ⟨g, cap, cur, rfl, hb, hg, h1, h2, h3, h4⟩
  · exact ⟨none, 0, rfl, Nat.le_refl _, Nat.zero_le _, fun _ => rfl, fun _ e => by cases e⟩
  · refine ⟨some ⟨g, 0, none⟩, cap, rfl, h1, h2, (fun e => by cases e), fun ad e j u hu => ?_⟩
    cases e
    exact h.cells rfl j _ hu

theorem Cells.nil (w : World) (size : Nat) : Cells w (.slice none 0 0) size 0 [] :=
  ⟨by simp, none, 0, rfl, Nat.le_refl _, Nat.zero_le _, fun _ => rfl, fun _ e => by cases e⟩

theorem Cells.at {w : World} {a : Option Addr} {n m cap size : Nat} {xs : List Value} (h : Cells w (.slice a m cap) size n xs) : m = n ∧ n ≤ maxLen ∧ xs.length = n * size ∧ ∀ j u, xs[j]? = some u → ∃ b off, a = some ⟨b, off, none⟩ ∧ w.cell? ⟨b, off + j, none⟩ = some u := by
  obtain ⟨h0, a', cap', e, h1, h2, h3, h4⟩ := h
  cases e
  refine ⟨rfl, Nat.le_trans h1 h2, h0, fun j u hu => ?_⟩
  have hj : j < xs.length := (List.getElem?_eq_some_iff.1 hu).1
  cases a with
  | none =>
    have := h3 rfl
    subst this
    have : n = 0 := by omega
    subst this
    omega
  | some ad =>
    have hc := h4 ad rfl j u hu
    obtain ⟨b, off, spot⟩ := ad
    have hspot : spot = none := by
      have hc0 := h4 _ rfl 0 xs[0] (List.getElem?_eq_getElem (by omega))
      simpa [Addr.add] using World.cell?_spot hc0
    subst hspot
    exact ⟨b, off, rfl, by rw [Addr.add_lit] at hc; exact hc⟩

theorem wpList_append_new {P : Program} {ops : Array Oper} {rest : List Oper} {o : Oper} {a : Act} {Q : Exit → Act → World → Prop} (s x : Operand) (t : TypeId)
    (ho : o.op = .call { callee := .builtin .append, args := #[s, x], argTypes := #[t, t] })
    (e : TypeId) (i : TypeInfo) (z : Value) (size bytes : Nat) (ht : P.underlying t = some (.slice e)) (hi : P.info? e = some i) (hz : i.zero = some z)
    (hsize : i.size = size) (hby : i.bytes = bytes) (hzs : z.cells.size = size) (hsz : 0 < size)
    (base : Nat) (v : Value) (n : Nat) (xs : List Value) (hs : a.eval s = v) (w0 : World) (hown : w0.ownsRow base e size v n xs)
    (news : List Value) (cells : Array Value) (hc : cells = news.toArray) (m : Nat) (hm : news.length = m * size) (h1 : ∀ u ∈ news, u.oneCell' = true) (hx : a.eval x = .slice (some ⟨w0.heap.size, 0, none⟩) m m) (hw : Region.wanted o (yielded ops a.tmps) = true)
    (h63 : n + m ≤ maxLen) (hbytes : (n + m) * bytes ≤ 140737488355328) (hbase : base ≤ w0.heap.size)
    (h : ∀ v' w', w'.ownsRow base e size v' (n + m) (xs ++ news) → Below base w0 w' → wpList P ops Q rest (a.put o.dst v') w') : wpList P ops Q (o :: rest) a (w0.alloc (.cells cells e)) := by
  subst hc
  refine wpList_wanted hw fun K hK => ?_
  refine wp_append_own (w0.alloc (.cells news.toArray e)) s x t ho base e i z size bytes ht hi hz hsize hby hzs hsz v n xs hs (hown.alloc _) ⟨w0.heap.size, 0, none⟩ m m news hx hm ?_ h1 h63 hbytes (by simp; omega) (fun v' w' a1 a2 _ => hK _ _ (h v' w' a1 ?_))
  · intro j u hu
    rw [Addr.add_lit, World.cell?_alloc_new]
    simpa using hu
  · have hlt := hown.lt
    exact (by go_grown : Below base w0 (w0.alloc (.cells news.toArray e))).trans ((Below.refl base _).grown a2 (by simp; omega) (fun k hk => (hlt k hk).1))
end

section
open Go Go.RowKit
set_option linter.unusedVariables false
set_option linter.unusedSimpArgs false

set_option maxRecDepth 100000 in
set_option maxHeartbeats 8000000 in
theorem aeqf_any (v u : Value) (L K : List A11) (w : World) (hL : ActAt w v L) (hK : ActAt w u K) :
    Calls Try.prog 29 #[v, u, (.func (.func 30) #[] #[])] w fun e w' => e = .returned (.bool (sameL L K)) ∧ Below w.heap.size w w' := by
  obtain ⟨s, cap, rfl, h1, h2, h3, h4⟩ := hL
  obtain ⟨s2, cap2, rfl, k1, k2, k3, k4⟩ := hK
  have HL := hide_ h4
  have HK := hide_ k4
  have hm : L.length ≤ 9223372036854775807 := by unfold maxLen at h2; omega
  have hm2 : K.length ≤ 9223372036854775807 := by unfold maxLen at k2; omega
  clear h1 h2 h3 h4 k1 k2 k3 k4
  by_cases hlen : L.length = K.length
  · have HE := hide_ hlen
    rw [← hlen]
    have g0 : ((L.length : Int) != (L.length : Int)) = false := by simp
    clear hlen hm2
    obtain ⟨R, hR⟩ : ∃ R, sameL L K = R := ⟨_, rfl⟩
    rw [hR]
    have HR := hide_ hR
    clear hR
    go_enter Try.func29, Try.ntmps29
    go_wp2
    go_loopw [17] (fun i wr => ∃ k : Nat, k ≤ L.length ∧ i = .int .i64 k ∧ Hid (L.take k = K.take k) ∧ Below w.heap.size w wr) (fun i _ => L.length - (intOf i).toNat)
    case atStart => exact ⟨0, Nat.zero_le _, rfl, hide_ rfl, Below.refl _ _⟩
    case round =>
      obtain ⟨j, hk, rfl, HT, hb⟩ := hrel
      by_cases hlt : j < L.length
      · have hlt2 : j < K.length := by have := HE.out; omega
        obtain ⟨⟨k1, p1, x1, q1, y1, f1, m1, a1, b1, c1, d1⟩, hz1⟩ : ∃ z, L[j]? = some z := ⟨_, List.getElem?_eq_getElem hlt⟩
        obtain ⟨q, off, rfl, X0, X1, X2, X3, X4, X5, X6, X7, X8, X9, X10⟩ := act11 HL.out hz1
        have X0 := cell_later hb X0
        have X1 := cell_later hb X1
        have X2 := cell_later hb X2
        have X3 := cell_later hb X3
        have X4 := cell_later hb X4
        have X5 := cell_later hb X5
        have X6 := cell_later hb X6
        have X7 := cell_later hb X7
        have X8 := cell_later hb X8
        have X9 := cell_later hb X9
        have X10 := cell_later hb X10
        obtain ⟨⟨k2, p2, x2, q2, y2, f2, m2, a2, b2, c2, d2⟩, hz2⟩ : ∃ z, K[j]? = some z := ⟨_, List.getElem?_eq_getElem hlt2⟩
        obtain ⟨q2', off2, rfl, Y0, Y1, Y2, Y3, Y4, Y5, Y6, Y7, Y8, Y9, Y10⟩ := act11 HK.out hz2
        have Y0 := cell_later hb Y0
        have Y1 := cell_later hb Y1
        have Y2 := cell_later hb Y2
        have Y3 := cell_later hb Y3
        have Y4 := cell_later hb Y4
        have Y5 := cell_later hb Y5
        have Y6 := cell_later hb Y6
        have Y7 := cell_later hb Y7
        have Y8 := cell_later hb Y8
        have Y9 := cell_later hb Y9
        have Y10 := cell_later hb Y10
        have Y0 := cell_later (below1 wr (.cells #[.int .i64 k1, .int .i64 p1, .int .i64 x1, .int .i64 q1, .int .i64 y1, .int .i64 f1, .bool m1, .int .u64 (a1 : Int), .int .u64 (b1 : Int), .int .u64 (c1 : Int), .int .u64 (d1 : Int)] 46)) Y0
        have Y1 := cell_later (below1 wr (.cells #[.int .i64 k1, .int .i64 p1, .int .i64 x1, .int .i64 q1, .int .i64 y1, .int .i64 f1, .bool m1, .int .u64 (a1 : Int), .int .u64 (b1 : Int), .int .u64 (c1 : Int), .int .u64 (d1 : Int)] 46)) Y1
        have Y2 := cell_later (below1 wr (.cells #[.int .i64 k1, .int .i64 p1, .int .i64 x1, .int .i64 q1, .int .i64 y1, .int .i64 f1, .bool m1, .int .u64 (a1 : Int), .int .u64 (b1 : Int), .int .u64 (c1 : Int), .int .u64 (d1 : Int)] 46)) Y2
        have Y3 := cell_later (below1 wr (.cells #[.int .i64 k1, .int .i64 p1, .int .i64 x1, .int .i64 q1, .int .i64 y1, .int .i64 f1, .bool m1, .int .u64 (a1 : Int), .int .u64 (b1 : Int), .int .u64 (c1 : Int), .int .u64 (d1 : Int)] 46)) Y3
        have Y4 := cell_later (below1 wr (.cells #[.int .i64 k1, .int .i64 p1, .int .i64 x1, .int .i64 q1, .int .i64 y1, .int .i64 f1, .bool m1, .int .u64 (a1 : Int), .int .u64 (b1 : Int), .int .u64 (c1 : Int), .int .u64 (d1 : Int)] 46)) Y4
        have Y5 := cell_later (below1 wr (.cells #[.int .i64 k1, .int .i64 p1, .int .i64 x1, .int .i64 q1, .int .i64 y1, .int .i64 f1, .bool m1, .int .u64 (a1 : Int), .int .u64 (b1 : Int), .int .u64 (c1 : Int), .int .u64 (d1 : Int)] 46)) Y5
        have Y6 := cell_later (below1 wr (.cells #[.int .i64 k1, .int .i64 p1, .int .i64 x1, .int .i64 q1, .int .i64 y1, .int .i64 f1, .bool m1, .int .u64 (a1 : Int), .int .u64 (b1 : Int), .int .u64 (c1 : Int), .int .u64 (d1 : Int)] 46)) Y6
        have Y7 := cell_later (below1 wr (.cells #[.int .i64 k1, .int .i64 p1, .int .i64 x1, .int .i64 q1, .int .i64 y1, .int .i64 f1, .bool m1, .int .u64 (a1 : Int), .int .u64 (b1 : Int), .int .u64 (c1 : Int), .int .u64 (d1 : Int)] 46)) Y7
        have Y8 := cell_later (below1 wr (.cells #[.int .i64 k1, .int .i64 p1, .int .i64 x1, .int .i64 q1, .int .i64 y1, .int .i64 f1, .bool m1, .int .u64 (a1 : Int), .int .u64 (b1 : Int), .int .u64 (c1 : Int), .int .u64 (d1 : Int)] 46)) Y8
        have Y9 := cell_later (below1 wr (.cells #[.int .i64 k1, .int .i64 p1, .int .i64 x1, .int .i64 q1, .int .i64 y1, .int .i64 f1, .bool m1, .int .u64 (a1 : Int), .int .u64 (b1 : Int), .int .u64 (c1 : Int), .int .u64 (d1 : Int)] 46)) Y9
        have Y10 := cell_later (below1 wr (.cells #[.int .i64 k1, .int .i64 p1, .int .i64 x1, .int .i64 q1, .int .i64 y1, .int .i64 f1, .bool m1, .int .u64 (a1 : Int), .int .u64 (b1 : Int), .int .u64 (c1 : Int), .int .u64 (d1 : Int)] 46)) Y10
        have HX := hide_ hz1
        have HY := hide_ hz2
        clear hz1 hz2 hlt2
        have hlt' : (j : Int) < (L.length : Int) := by omega
        have BB := hide_ (below2 wr (.cells #[.int .i64 k1, .int .i64 p1, .int .i64 x1, .int .i64 q1, .int .i64 y1, .int .i64 f1, .bool m1, .int .u64 (a1 : Int), .int .u64 (b1 : Int), .int .u64 (c1 : Int), .int .u64 (d1 : Int)] 46) (.cells #[.int .i64 k2, .int .i64 p2, .int .i64 x2, .int .i64 q2, .int .i64 y2, .int .i64 f2, .bool m2, .int .u64 (a2 : Int), .int .u64 (b2 : Int), .int .u64 (c2 : Int), .int .u64 (d2 : Int)] 46))
        have qs := fun w => asame_any k1 p1 x1 q1 y1 f1 m1 a1 b1 c1 d1 k2 p2 x2 q2 y2 f2 m2 a2 b2 c2 d2 w
        have qs := hide_ qs
        unfold av at qs
        cases hd : sameB k1 p1 x1 q1 y1 f1 m1 a1 b1 c1 d1 k2 p2 x2 q2 y2 f2 m2 a2 b2 c2 d2
        · rw [hd] at qs
          have HD := hide_ (sameB_false _ _ _ _ _ _ _ _ _ _ _ _ _ _ _ _ _ _ _ _ _ _ hd)
          clear hd
          go_wp2_with (go_at_call 30; refine (qs.out _).mono ?_; rintro e w5 ⟨rfl, b5⟩)
          go_ret
          refine ⟨?_, hb.trans ((BB.out.trans (b5.mono BB.out.size)).mono hb.size)⟩
          rw [← HR.out, sameL_false (take_diffA HX.out HY.out HD.out)]
          rfl
        · rw [hd] at qs
          have HD := hide_ (sameB_true _ _ _ _ _ _ _ _ _ _ _ _ _ _ _ _ _ _ _ _ _ _ hd)
          clear hd
          go_wp2_with (go_at_call 30; refine (qs.out _).mono ?_; rintro e w5 ⟨rfl, b5⟩)
          go_roundw
          case rel => exact ⟨j + 1, by omega, by go_num, hide_ (take_sameA HT.out HX.out HY.out HD.out), hb.trans ((BB.out.trans (b5.mono BB.out.size)).mono hb.size)⟩
          case measure => simp [intOf]; omega
      · have hlt' : ¬ (j : Int) < (L.length : Int) := by omega
        go_wp2
        go_ret
        refine ⟨?_, hb⟩
        have e := HT.out
        rw [List.take_of_length_le (by omega), List.take_of_length_le (by have := HE.out; omega)] at e
        rw [← HR.out, sameL_true e]
        rfl
  · have g0 : ((L.length : Int) != (K.length : Int)) = true := by simp; omega
    have g1 : ((L.length : Int) == (K.length : Int)) = false := by simp; omega
    have e : ¬ L = K := fun h => hlen (by rw [h])
    rw [sameL_false e]
    go_enter Try.func29, Try.ntmps29
    go_wp2
    go_ret
    exact ⟨rfl, Below.refl _ _⟩

set_option maxRecDepth 100000 in
set_option maxHeartbeats 8000000 in
theorem lsame_any (v u : Value) (L K : List A11) (w : World) (hL : ActAt w v L) (hK : ActAt w u K) :
    Calls Try.prog 11 #[v, u] w fun e w' => e = .returned (.bool (sameL L K)) ∧ Below w.heap.size w w' := by
  have q := hide_ (aeqf_any v u L K w hL hK)
  generalize sameL L K = z at *
  clear hL hK
  go_enter Try.func11, Try.ntmps11
  go_wp2_with (go_at_call 29; refine q.out.mono ?_; rintro e w1 ⟨rfl, b1⟩)
  go_ret
  exact ⟨rfl, b1⟩
end

section
open Go Go.RowKit
set_option linter.unusedVariables false
set_option linter.unusedSimpArgs false

set_option maxRecDepth 100000 in
set_option maxHeartbeats 8000000 in
theorem rlsame_any (v u : Value) (L K : List A11) (w : World) (hL : ActAt w v L) (hK : ActAt w u K) :
    Calls Try.prog 12 #[v, u] w fun e w' => e = .returned (.bool (sameL L K)) ∧ Below w.heap.size w w' := by
  obtain ⟨s, cap, rfl, h1, h2, h3, h4⟩ := hL
  obtain ⟨s2, cap2, rfl, k1, k2, k3, k4⟩ := hK
  have HL := hide_ h4
  have HK := hide_ k4
  have hm : L.length ≤ 9223372036854775807 := by unfold maxLen at h2; omega
  have hm2 : K.length ≤ 9223372036854775807 := by unfold maxLen at k2; omega
  clear h1 h2 h3 h4 k1 k2 k3 k4
  by_cases hlen : L.length = K.length
  · have HE := hide_ hlen
    rw [← hlen]
    have g0 : ((L.length : Int) != (L.length : Int)) = false := by simp
    clear hlen hm2
    obtain ⟨R, hR⟩ : ∃ R, sameL L K = R := ⟨_, rfl⟩
    rw [hR]
    have HR := hide_ hR
    clear hR
    go_enter Try.func12, Try.ntmps12
    go_wp2
    go_loopw [5] (fun i wr => ∃ k : Nat, k ≤ L.length ∧ i = .int .i64 k ∧ Hid (L.take k = K.take k) ∧ Below w.heap.size w wr) (fun i _ => L.length - (intOf i).toNat)
    case atStart => exact ⟨0, Nat.zero_le _, rfl, hide_ rfl, Below.refl _ _⟩
    case round =>
      obtain ⟨j, hk, rfl, HT, hb⟩ := hrel
      by_cases hlt : j < L.length
      · have hlt2 : j < K.length := by have := HE.out; omega
        obtain ⟨⟨k1, p1, x1, q1, y1, f1, m1, a1, b1, c1, d1⟩, hz1⟩ : ∃ z, L[j]? = some z := ⟨_, List.getElem?_eq_getElem hlt⟩
        obtain ⟨q, off, rfl, X0, X1, X2, X3, X4, X5, X6, X7, X8, X9, X10⟩ := act11 HL.out hz1
        have X0 := cell_later hb X0
        have X1 := cell_later hb X1
        have X2 := cell_later hb X2
        have X3 := cell_later hb X3
        have X4 := cell_later hb X4
        have X5 := cell_later hb X5
        have X6 := cell_later hb X6
        have X7 := cell_later hb X7
        have X8 := cell_later hb X8
        have X9 := cell_later hb X9
        have X10 := cell_later hb X10
        obtain ⟨⟨k2, p2, x2, q2, y2, f2, m2, a2, b2, c2, d2⟩, hz2⟩ : ∃ z, K[j]? = some z := ⟨_, List.getElem?_eq_getElem hlt2⟩
        obtain ⟨q2', off2, rfl, Y0, Y1, Y2, Y3, Y4, Y5, Y6, Y7, Y8, Y9, Y10⟩ := act11 HK.out hz2
        have Y0 := cell_later hb Y0
        have Y1 := cell_later hb Y1
        have Y2 := cell_later hb Y2
        have Y3 := cell_later hb Y3
        have Y4 := cell_later hb Y4
        have Y5 := cell_later hb Y5
        have Y6 := cell_later hb Y6
        have Y7 := cell_later hb Y7
        have Y8 := cell_later hb Y8
        have Y9 := cell_later hb Y9
        have Y10 := cell_later hb Y10
        have HX := hide_ hz1
        have HY := hide_ hz2
        clear hz1 hz2 hlt2
        have hlt' : (j : Int) < (L.length : Int) := by omega
        have qs := fun w => rasame_any k1 p1 x1 q1 y1 f1 m1 a1 b1 c1 d1 k2 p2 x2 q2 y2 f2 m2 a2 b2 c2 d2 w
        have qs := hide_ qs
        unfold av at qs
        cases hd : sameB k1 p1 x1 q1 y1 f1 m1 a1 b1 c1 d1 k2 p2 x2 q2 y2 f2 m2 a2 b2 c2 d2
        · rw [hd] at qs
          have HD := hide_ (sameB_false _ _ _ _ _ _ _ _ _ _ _ _ _ _ _ _ _ _ _ _ _ _ hd)
          clear hd
          go_wp2_with fail
          refine wp_region_held_drew (S := (fun w' => w'.cell? ⟨q, off + j * 11, none⟩ = some (.int .i64 k1) ∧ w'.cell? ⟨q, off + j * 11 + 1, none⟩ = some (.int .i64 p1) ∧ w'.cell? ⟨q, off + j * 11 + 2, none⟩ = some (.int .i64 x1) ∧ w'.cell? ⟨q, off + j * 11 + 3, none⟩ = some (.int .i64 q1) ∧ w'.cell? ⟨q, off + j * 11 + 4, none⟩ = some (.int .i64 y1) ∧ w'.cell? ⟨q, off + j * 11 + 5, none⟩ = some (.int .i64 f1) ∧ w'.cell? ⟨q, off + j * 11 + 6, none⟩ = some (.bool m1) ∧ w'.cell? ⟨q, off + j * 11 + 7, none⟩ = some (.int .u64 (a1 : Int)) ∧ w'.cell? ⟨q, off + j * 11 + 8, none⟩ = some (.int .u64 (b1 : Int)) ∧ w'.cell? ⟨q, off + j * 11 + 9, none⟩ = some (.int .u64 (c1 : Int)) ∧ w'.cell? ⟨q, off + j * 11 + 10, none⟩ = some (.int .u64 (d1 : Int)) ∧ w'.cell? ⟨q2', off2 + j * 11, none⟩ = some (.int .i64 k2) ∧ w'.cell? ⟨q2', off2 + j * 11 + 1, none⟩ = some (.int .i64 p2) ∧ w'.cell? ⟨q2', off2 + j * 11 + 2, none⟩ = some (.int .i64 x2) ∧ w'.cell? ⟨q2', off2 + j * 11 + 3, none⟩ = some (.int .i64 q2) ∧ w'.cell? ⟨q2', off2 + j * 11 + 4, none⟩ = some (.int .i64 y2) ∧ w'.cell? ⟨q2', off2 + j * 11 + 5, none⟩ = some (.int .i64 f2) ∧ w'.cell? ⟨q2', off2 + j * 11 + 6, none⟩ = some (.bool m2) ∧ w'.cell? ⟨q2', off2 + j * 11 + 7, none⟩ = some (.int .u64 (a2 : Int)) ∧ w'.cell? ⟨q2', off2 + j * 11 + 8, none⟩ = some (.int .u64 (b2 : Int)) ∧ w'.cell? ⟨q2', off2 + j * 11 + 9, none⟩ = some (.int .u64 (c2 : Int)) ∧ w'.cell? ⟨q2', off2 + j * 11 + 10, none⟩ = some (.int .u64 (d2 : Int)) ∧ Below w.heap.size w w')) (by kernel_rfl) (⟨X0, X1, X2, X3, X4, X5, X6, X7, X8, X9, X10, Y0, Y1, Y2, Y3, Y4, Y5, Y6, Y7, Y8, Y9, Y10, hb.drew⟩) (fun hHeld => ?_)
          refine takeR (i := 0) (v := ?_) rfl (by kernel_rfl) (by kernel_rfl) (by kernel_rfl) (some 17) rfl (Or.inl ⟨by rfl, ?_⟩) (fun _ _ _ h => h) (by assumption) ?_
          rotate_left
          · intro w hSw; (try dsimp only at hSw); go_simp; (try with_reducible rfl)
          simp only [Act.put, List.setIfInBounds_toArray, List.set_cons_zero, List.set_cons_succ]
          refine takeR (i := 1) (v := ?_) rfl (by kernel_rfl) (by kernel_rfl) (by kernel_rfl) (some 18) rfl (Or.inl ⟨by rfl, ?_⟩) (fun _ _ _ h => h) (by assumption) ?_
          rotate_left
          · intro w hSw; (try dsimp only at hSw); go_simp; (try with_reducible rfl)
          simp only [Act.put, List.setIfInBounds_toArray, List.set_cons_zero, List.set_cons_succ]
          refine takeR (i := 2) (v := ?_) rfl (by kernel_rfl) (by kernel_rfl) (by kernel_rfl) (some 19) rfl (Or.inl ⟨by rfl, ?_⟩) (fun _ _ _ h => h) (by assumption) ?_
          rotate_left
          · intro w hSw; (try dsimp only at hSw); go_simp; (try with_reducible rfl)
          simp only [Act.put, List.setIfInBounds_toArray, List.set_cons_zero, List.set_cons_succ]
          refine takeR (i := 3) (v := ?_) rfl (by kernel_rfl) (by kernel_rfl) (by kernel_rfl) (some 20) rfl (Or.inl ⟨by rfl, ?_⟩) (fun _ _ _ h => h) (by assumption) ?_
          rotate_left
          · intro w hSw; (try dsimp only at hSw); go_simp; (try with_reducible rfl)
          simp only [Act.put, List.setIfInBounds_toArray, List.set_cons_zero, List.set_cons_succ]
          refine takeR (i := 4) (v := ?_) rfl (by kernel_rfl) (by kernel_rfl) (by kernel_rfl) (some 21) rfl (Or.inl ⟨by rfl, ?_⟩) (fun _ _ _ h => h) (by assumption) ?_
          rotate_left
          · intro w hSw; (try dsimp only at hSw); go_simp; (try with_reducible rfl)
          simp only [Act.put, List.setIfInBounds_toArray, List.set_cons_zero, List.set_cons_succ]
          refine takeR (i := 5) (v := ?_) rfl (by kernel_rfl) (by kernel_rfl) (by kernel_rfl) (some 22) rfl (Or.inl ⟨by rfl, ?_⟩) (fun _ _ _ h => h) (by assumption) ?_
          rotate_left
          · intro w hSw; (try dsimp only at hSw); go_simp; (try with_reducible rfl)
          simp only [Act.put, List.setIfInBounds_toArray, List.set_cons_zero, List.set_cons_succ]
          refine takeR (i := 6) (v := ?_) rfl (by kernel_rfl) (by kernel_rfl) (by kernel_rfl) (some 23) rfl (Or.inl ⟨by rfl, ?_⟩) (fun _ _ _ h => h) (by assumption) ?_
          rotate_left
          · intro w hSw; (try dsimp only at hSw); go_simp; (try with_reducible rfl)
          simp only [Act.put, List.setIfInBounds_toArray, List.set_cons_zero, List.set_cons_succ]
          refine takeR (i := 7) (v := ?_) rfl (by kernel_rfl) (by kernel_rfl) (by kernel_rfl) (some 24) rfl (Or.inl ⟨by rfl, ?_⟩) (fun _ _ _ h => h) (by assumption) ?_
          rotate_left
          · intro w hSw; (try dsimp only at hSw); go_simp; (try with_reducible rfl)
          simp only [Act.put, List.setIfInBounds_toArray, List.set_cons_zero, List.set_cons_succ]
          refine wpAnyH_ready (rs := [8]) (by kernel_rfl) (by simp) ?_
          refine AllReadyH.cons rfl (fun K hK => ?_) (AllReadyH.nil)
          go_simp
          refine (qs.out _).mono ?_
          rintro e w5 ⟨rfl, b5⟩
          refine hK.out _ _ (⟨cell_later b5 hHeld.1, cell_later b5 hHeld.2.1, cell_later b5 hHeld.2.2.1, cell_later b5 hHeld.2.2.2.1, cell_later b5 hHeld.2.2.2.2.1, cell_later b5 hHeld.2.2.2.2.2.1, cell_later b5 hHeld.2.2.2.2.2.2.1, cell_later b5 hHeld.2.2.2.2.2.2.2.1, cell_later b5 hHeld.2.2.2.2.2.2.2.2.1, cell_later b5 hHeld.2.2.2.2.2.2.2.2.2.1, cell_later b5 hHeld.2.2.2.2.2.2.2.2.2.2.1, cell_later b5 hHeld.2.2.2.2.2.2.2.2.2.2.2.1, cell_later b5 hHeld.2.2.2.2.2.2.2.2.2.2.2.2.1, cell_later b5 hHeld.2.2.2.2.2.2.2.2.2.2.2.2.2.1, cell_later b5 hHeld.2.2.2.2.2.2.2.2.2.2.2.2.2.2.1, cell_later b5 hHeld.2.2.2.2.2.2.2.2.2.2.2.2.2.2.2.1, cell_later b5 hHeld.2.2.2.2.2.2.2.2.2.2.2.2.2.2.2.2.1, cell_later b5 hHeld.2.2.2.2.2.2.2.2.2.2.2.2.2.2.2.2.2.1, cell_later b5 hHeld.2.2.2.2.2.2.2.2.2.2.2.2.2.2.2.2.2.2.1, cell_later b5 hHeld.2.2.2.2.2.2.2.2.2.2.2.2.2.2.2.2.2.2.2.1, cell_later b5 hHeld.2.2.2.2.2.2.2.2.2.2.2.2.2.2.2.2.2.2.2.2.1, cell_later b5 hHeld.2.2.2.2.2.2.2.2.2.2.2.2.2.2.2.2.2.2.2.2.2.1, hHeld.2.2.2.2.2.2.2.2.2.2.2.2.2.2.2.2.2.2.2.2.2.2.trans (b5.mono hHeld.2.2.2.2.2.2.2.2.2.2.2.2.2.2.2.2.2.2.2.2.2.2.size)⟩) (fun hHeld => ?_)
          clear hK K
          try simp only [Act.put, List.setIfInBounds_toArray, List.set_cons_zero, List.set_cons_succ]
          refine takeR (i := 9) (v := ?_) rfl (by kernel_rfl) (by kernel_rfl) (by kernel_rfl) (some 26) rfl (Or.inl ⟨by rfl, ?_⟩) (fun _ _ _ h => h) (by assumption) ?_
          rotate_left
          · intro w hSw; (try dsimp only at hSw); go_simp; (try with_reducible rfl)
          simp only [Act.put, List.setIfInBounds_toArray, List.set_cons_zero, List.set_cons_succ]
          refine wpAnyH_done (by kernel_rfl) ?_ _
          go_wp2
          go_ret
          refine ⟨?_, hHeld.2.2.2.2.2.2.2.2.2.2.2.2.2.2.2.2.2.2.2.2.2.2⟩
          rw [← HR.out, sameL_false (take_diffA HX.out HY.out HD.out)]
          rfl
        · rw [hd] at qs
          have HD := hide_ (sameB_true _ _ _ _ _ _ _ _ _ _ _ _ _ _ _ _ _ _ _ _ _ _ hd)
          clear hd
          go_wp2_with fail
          refine wp_region_held_drew (S := (fun w' => w'.cell? ⟨q, off + j * 11, none⟩ = some (.int .i64 k1) ∧ w'.cell? ⟨q, off + j * 11 + 1, none⟩ = some (.int .i64 p1) ∧ w'.cell? ⟨q, off + j * 11 + 2, none⟩ = some (.int .i64 x1) ∧ w'.cell? ⟨q, off + j * 11 + 3, none⟩ = some (.int .i64 q1) ∧ w'.cell? ⟨q, off + j * 11 + 4, none⟩ = some (.int .i64 y1) ∧ w'.cell? ⟨q, off + j * 11 + 5, none⟩ = some (.int .i64 f1) ∧ w'.cell? ⟨q, off + j * 11 + 6, none⟩ = some (.bool m1) ∧ w'.cell? ⟨q, off + j * 11 + 7, none⟩ = some (.int .u64 (a1 : Int)) ∧ w'.cell? ⟨q, off + j * 11 + 8, none⟩ = some (.int .u64 (b1 : Int)) ∧ w'.cell? ⟨q, off + j * 11 + 9, none⟩ = some (.int .u64 (c1 : Int)) ∧ w'.cell? ⟨q, off + j * 11 + 10, none⟩ = some (.int .u64 (d1 : Int)) ∧ w'.cell? ⟨q2', off2 + j * 11, none⟩ = some (.int .i64 k2) ∧ w'.cell? ⟨q2', off2 + j * 11 + 1, none⟩ = some (.int .i64 p2) ∧ w'.cell? ⟨q2', off2 + j * 11 + 2, none⟩ = some (.int .i64 x2) ∧ w'.cell? ⟨q2', off2 + j * 11 + 3, none⟩ = some (.int .i64 q2) ∧ w'.cell? ⟨q2', off2 + j * 11 + 4, none⟩ = some (.int .i64 y2) ∧ w'.cell? ⟨q2', off2 + j * 11 + 5, none⟩ = some (.int .i64 f2) ∧ w'.cell? ⟨q2', off2 + j * 11 + 6, none⟩ = some (.bool m2) ∧ w'.cell? ⟨q2', off2 + j * 11 + 7, none⟩ = some (.int .u64 (a2 : Int)) ∧ w'.cell? ⟨q2', off2 + j * 11 + 8, none⟩ = some (.int .u64 (b2 : Int)) ∧ w'.cell? ⟨q2', off2 + j * 11 + 9, none⟩ = some (.int .u64 (c2 : Int)) ∧ w'.cell? ⟨q2', off2 + j * 11 + 10, none⟩ = some (.int .u64 (d2 : Int)) ∧ Below w.heap.size w w')) (by kernel_rfl) (⟨X0, X1, X2, X3, X4, X5, X6, X7, X8, X9, X10, Y0, Y1, Y2, Y3, Y4, Y5, Y6, Y7, Y8, Y9, Y10, hb.drew⟩) (fun hHeld => ?_)
          refine takeR (i := 0) (v := ?_) rfl (by kernel_rfl) (by kernel_rfl) (by kernel_rfl) (some 17) rfl (Or.inl ⟨by rfl, ?_⟩) (fun _ _ _ h => h) (by assumption) ?_
          rotate_left
          · intro w hSw; (try dsimp only at hSw); go_simp; (try with_reducible rfl)
          simp only [Act.put, List.setIfInBounds_toArray, List.set_cons_zero, List.set_cons_succ]
          refine takeR (i := 1) (v := ?_) rfl (by kernel_rfl) (by kernel_rfl) (by kernel_rfl) (some 18) rfl (Or.inl ⟨by rfl, ?_⟩) (fun _ _ _ h => h) (by assumption) ?_
          rotate_left
          · intro w hSw; (try dsimp only at hSw); go_simp; (try with_reducible rfl)
          simp only [Act.put, List.setIfInBounds_toArray, List.set_cons_zero, List.set_cons_succ]
          refine takeR (i := 2) (v := ?_) rfl (by kernel_rfl) (by kernel_rfl) (by kernel_rfl) (some 19) rfl (Or.inl ⟨by rfl, ?_⟩) (fun _ _ _ h => h) (by assumption) ?_
          rotate_left
          · intro w hSw; (try dsimp only at hSw); go_simp; (try with_reducible rfl)
          simp only [Act.put, List.setIfInBounds_toArray, List.set_cons_zero, List.set_cons_succ]
          refine takeR (i := 3) (v := ?_) rfl (by kernel_rfl) (by kernel_rfl) (by kernel_rfl) (some 20) rfl (Or.inl ⟨by rfl, ?_⟩) (fun _ _ _ h => h) (by assumption) ?_
          rotate_left
          · intro w hSw; (try dsimp only at hSw); go_simp; (try with_reducible rfl)
          simp only [Act.put, List.setIfInBounds_toArray, List.set_cons_zero, List.set_cons_succ]
          refine takeR (i := 4) (v := ?_) rfl (by kernel_rfl) (by kernel_rfl) (by kernel_rfl) (some 21) rfl (Or.inl ⟨by rfl, ?_⟩) (fun _ _ _ h => h) (by assumption) ?_
          rotate_left
          · intro w hSw; (try dsimp only at hSw); go_simp; (try with_reducible rfl)
          simp only [Act.put, List.setIfInBounds_toArray, List.set_cons_zero, List.set_cons_succ]
          refine takeR (i := 5) (v := ?_) rfl (by kernel_rfl) (by kernel_rfl) (by kernel_rfl) (some 22) rfl (Or.inl ⟨by rfl, ?_⟩) (fun _ _ _ h => h) (by assumption) ?_
          rotate_left
          · intro w hSw; (try dsimp only at hSw); go_simp; (try with_reducible rfl)
          simp only [Act.put, List.setIfInBounds_toArray, List.set_cons_zero, List.set_cons_succ]
          refine takeR (i := 6) (v := ?_) rfl (by kernel_rfl) (by kernel_rfl) (by kernel_rfl) (some 23) rfl (Or.inl ⟨by rfl, ?_⟩) (fun _ _ _ h => h) (by assumption) ?_
          rotate_left
          · intro w hSw; (try dsimp only at hSw); go_simp; (try with_reducible rfl)
          simp only [Act.put, List.setIfInBounds_toArray, List.set_cons_zero, List.set_cons_succ]
          refine takeR (i := 7) (v := ?_) rfl (by kernel_rfl) (by kernel_rfl) (by kernel_rfl) (some 24) rfl (Or.inl ⟨by rfl, ?_⟩) (fun _ _ _ h => h) (by assumption) ?_
          rotate_left
          · intro w hSw; (try dsimp only at hSw); go_simp; (try with_reducible rfl)
          simp only [Act.put, List.setIfInBounds_toArray, List.set_cons_zero, List.set_cons_succ]
          refine wpAnyH_ready (rs := [8]) (by kernel_rfl) (by simp) ?_
          refine AllReadyH.cons rfl (fun K hK => ?_) (AllReadyH.nil)
          go_simp
          refine (qs.out _).mono ?_
          rintro e w5 ⟨rfl, b5⟩
          refine hK.out _ _ (⟨cell_later b5 hHeld.1, cell_later b5 hHeld.2.1, cell_later b5 hHeld.2.2.1, cell_later b5 hHeld.2.2.2.1, cell_later b5 hHeld.2.2.2.2.1, cell_later b5 hHeld.2.2.2.2.2.1, cell_later b5 hHeld.2.2.2.2.2.2.1, cell_later b5 hHeld.2.2.2.2.2.2.2.1, cell_later b5 hHeld.2.2.2.2.2.2.2.2.1, cell_later b5 hHeld.2.2.2.2.2.2.2.2.2.1, cell_later b5 hHeld.2.2.2.2.2.2.2.2.2.2.1, cell_later b5 hHeld.2.2.2.2.2.2.2.2.2.2.2.1, cell_later b5 hHeld.2.2.2.2.2.2.2.2.2.2.2.2.1, cell_later b5 hHeld.2.2.2.2.2.2.2.2.2.2.2.2.2.1, cell_later b5 hHeld.2.2.2.2.2.2.2.2.2.2.2.2.2.2.1, cell_later b5 hHeld.2.2.2.2.2.2.2.2.2.2.2.2.2.2.2.1, cell_later b5 hHeld.2.2.2.2.2.2.2.2.2.2.2.2.2.2.2.2.1, cell_later b5 hHeld.2.2.2.2.2.2.2.2.2.2.2.2.2.2.2.2.2.1, cell_later b5 hHeld.2.2.2.2.2.2.2.2.2.2.2.2.2.2.2.2.2.2.1, cell_later b5 hHeld.2.2.2.2.2.2.2.2.2.2.2.2.2.2.2.2.2.2.2.1, cell_later b5 hHeld.2.2.2.2.2.2.2.2.2.2.2.2.2.2.2.2.2.2.2.2.1, cell_later b5 hHeld.2.2.2.2.2.2.2.2.2.2.2.2.2.2.2.2.2.2.2.2.2.1, hHeld.2.2.2.2.2.2.2.2.2.2.2.2.2.2.2.2.2.2.2.2.2.2.trans (b5.mono hHeld.2.2.2.2.2.2.2.2.2.2.2.2.2.2.2.2.2.2.2.2.2.2.size)⟩) (fun hHeld => ?_)
          clear hK K
          try simp only [Act.put, List.setIfInBounds_toArray, List.set_cons_zero, List.set_cons_succ]
          refine takeR (i := 9) (v := ?_) rfl (by kernel_rfl) (by kernel_rfl) (by kernel_rfl) (some 26) rfl (Or.inl ⟨by rfl, ?_⟩) (fun _ _ _ h => h) (by assumption) ?_
          rotate_left
          · intro w hSw; (try dsimp only at hSw); go_simp; (try with_reducible rfl)
          simp only [Act.put, List.setIfInBounds_toArray, List.set_cons_zero, List.set_cons_succ]
          refine wpAnyH_done (by kernel_rfl) ?_ _
          go_wp2
          go_roundw
          case rel => exact ⟨j + 1, by omega, by go_num, hide_ (take_sameA HT.out HX.out HY.out HD.out), hHeld.2.2.2.2.2.2.2.2.2.2.2.2.2.2.2.2.2.2.2.2.2.2⟩
          case measure => simp [intOf]; omega
      · have hlt' : ¬ (j : Int) < (L.length : Int) := by omega
        go_wp2
        go_ret
        refine ⟨?_, hb⟩
        have e := HT.out
        rw [List.take_of_length_le (by omega), List.take_of_length_le (by have := HE.out; omega)] at e
        rw [← HR.out, sameL_true e]
        rfl
  · have g0 : ((L.length : Int) != (K.length : Int)) = true := by simp; omega
    have g1 : ((L.length : Int) == (K.length : Int)) = false := by simp; omega
    have e : ¬ L = K := fun h => hlen (by rw [h])
    rw [sameL_false e]
    go_enter Try.func12, Try.ntmps12
    go_wp2
    go_ret
    exact ⟨rfl, Below.refl _ _⟩
end

end Go.Proofs.Ytadgppedodlgmaa
