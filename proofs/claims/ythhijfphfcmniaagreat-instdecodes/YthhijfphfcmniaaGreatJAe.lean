import Derived.Test.YthhijfphfcmniaaGreatAae
import Derived.Test.YthhijfphfcmniaaGreatJOe
import Derived.Test.YthhijfphfcmniaaGreatAke
import Derived.Test.YthhijfphfcmniaaGreatAfe
import Derived.Test.YthhijfphfcmniaaGreatXhe
import Derived.Deep.RegionHeld3
import Derived.Deep.RegionWith
import Derived.Deep.MidRow
import Derived.Deep.Cut
import Derived.Lib.AppendZeros
set_option maxRecDepth 100000
set_option maxHeartbeats 8000000
set_option linter.unusedVariables false
set_option linter.unusedSimpArgs false
namespace Go.Proofs.YthhijfphfcmniaaGreat
section
open Go Go.RowKit
abbrev A11 := Int × Int × Int × Int × Int × Int × Bool × Nat × Nat × Nat × Nat
def acl (o : A11) : List Value := [.int .i64 o.1, .int .i64 o.2.1, .int .i64 o.2.2.1, .int .i64 o.2.2.2.1, .int .i64 o.2.2.2.2.1, .int .i64 o.2.2.2.2.2.1, .bool o.2.2.2.2.2.2.1, .int .u64 (o.2.2.2.2.2.2.2.1 : Int), .int .u64 (o.2.2.2.2.2.2.2.2.1 : Int), .int .u64 (o.2.2.2.2.2.2.2.2.2.1 : Int), .int .u64 (o.2.2.2.2.2.2.2.2.2.2 : Int)]
def ads (L : List A11) : List Value := L.flatMap acl
theorem ads_length (L : List A11) : (ads L).length = L.length * 11 := by
  induction L with
  | nil => rfl
  | cons o r ih => simp [ads, acl] at ih ⊢; omega
theorem ads_at {L : List A11} {i j : Nat} {o : A11} (h : L[i]? = some o) (hj : j < 11) : (ads L)[i * 11 + j]? = (acl o)[j]? := by
  induction L generalizing i with
  | nil => simp at h
  | cons x r ih =>
    cases i with
    | zero =>
      simp at h
      subst h
      unfold ads
      rw [List.flatMap_cons, List.getElem?_append_left (by simp [acl]; omega)]
      simp
    | succ i =>
      have := ih (i := i) (by simpa using h)
      unfold ads at *
      rw [List.flatMap_cons, List.getElem?_append_right (by simp [acl]; omega)]
      have e : (i + 1) * 11 + j - (acl x).length = i * 11 + j := by simp [acl]; omega
      rw [e]
      exact this
theorem ads_snoc (L : List A11) (o : A11) : ads (L ++ [o]) = ads L ++ acl o := by simp [ads]
theorem acl_one (o : A11) : ∀ u ∈ acl o, u.oneCell' = true := by
  intro u hu
  simp only [acl, List.mem_cons, List.not_mem_nil, or_false] at hu
  rcases hu with rfl | rfl | rfl | rfl | rfl | rfl | rfl | rfl | rfl | rfl | rfl <;> rfl
theorem ads_one (L : List A11) : ∀ u ∈ ads L, u.oneCell' = true := by
  intro u hu
  obtain ⟨o, _, h⟩ := List.mem_flatMap.1 hu
  exact acl_one o u h
def ActAt (w : World) (v : Value) (L : List A11) : Prop := ∃ s cap, v = .slice s L.length cap ∧ L.length ≤ cap ∧ cap ≤ maxLen ∧ (s = none → cap = 0) ∧
    ∀ (i : Nat) (o : A11), L[i]? = some o → ∃ q off, s = some ⟨q, off, none⟩ ∧ ∀ j u, (acl o)[j]? = some u → w.cell? ⟨q, off + i * 11 + j, none⟩ = some u
theorem ActAt.later {w w' : World} {v : Value} {L : List A11} (h : ActAt w v L) (hb : Below w.heap.size w w') : ActAt w' v L := by
  obtain ⟨s, cap, rfl, h1, h2, h3, h4⟩ := h
  refine ⟨s, cap, rfl, h1, h2, h3, fun i o hi => ?_⟩
  obtain ⟨q, off, e, hc⟩ := h4 i o hi
  exact ⟨q, off, e, fun j u hu => cell_later hb (hc j u hu)⟩
theorem ActAt.nil (w : World) : ActAt w (.slice none 0 0) [] := ⟨none, 0, rfl, Nat.le_refl _, Nat.zero_le _, fun _ => rfl, fun i o h => by simp at h⟩
theorem ActAt.ofOwn {w : World} {base : Nat} {e : TypeId} {v : Value} {L : List A11} (h : w.ownsRow base e 11 v L.length (ads L)) : ActAt w v L := by
  rcases h.2 with ⟨rfl, h0⟩ | ⟨g, cap, cur, rfl, hb, hg, h1, h2, h3, h4⟩
  · have e : L = [] := List.eq_nil_of_length_eq_zero h0
    subst e
    exact ActAt.nil w
  · have hc := h.cells (g := g) rfl
    refine ⟨some ⟨g, 0, none⟩, cap, rfl, h1, h2, (fun e => by cases e), fun i o hi => ⟨g, 0, rfl, ?_⟩⟩
    intro j u hu
    have hj : j < 11 := by have := (List.getElem?_eq_some_iff.1 hu).1; simpa [acl] using this
    have := hc (i * 11 + j) u (by rw [ads_at hi hj]; exact hu)
    rw [Addr.add_lit] at this
    simpa [Nat.add_assoc] using this
theorem act11 {w : World} {s : Option Addr} {L : List A11} (H : ∀ (i : Nat) (o : A11), L[i]? = some o → ∃ q off, s = some ⟨q, off, none⟩ ∧ ∀ j u, (acl o)[j]? = some u → w.cell? ⟨q, off + i * 11 + j, none⟩ = some u)
    {i : Nat} {k p x q y f : Int} {m : Bool} {a b c d : Nat} (hi : L[i]? = some (k, p, x, q, y, f, m, a, b, c, d)) : ∃ q' off, s = some ⟨q', off, none⟩ ∧ w.cell? ⟨q', off + i * 11, none⟩ = some (.int .i64 k) ∧ w.cell? ⟨q', off + i * 11 + 1, none⟩ = some (.int .i64 p) ∧ w.cell? ⟨q', off + i * 11 + 2, none⟩ = some (.int .i64 x) ∧ w.cell? ⟨q', off + i * 11 + 3, none⟩ = some (.int .i64 q) ∧ w.cell? ⟨q', off + i * 11 + 4, none⟩ = some (.int .i64 y) ∧ w.cell? ⟨q', off + i * 11 + 5, none⟩ = some (.int .i64 f) ∧ w.cell? ⟨q', off + i * 11 + 6, none⟩ = some (.bool m) ∧ w.cell? ⟨q', off + i * 11 + 7, none⟩ = some (.int .u64 (a : Int)) ∧ w.cell? ⟨q', off + i * 11 + 8, none⟩ = some (.int .u64 (b : Int)) ∧ w.cell? ⟨q', off + i * 11 + 9, none⟩ = some (.int .u64 (c : Int)) ∧ w.cell? ⟨q', off + i * 11 + 10, none⟩ = some (.int .u64 (d : Int)) := by
  obtain ⟨q', off, e, hc⟩ := H i _ hi
  exact ⟨q', off, e, hc 0 _ rfl, hc 1 _ rfl, hc 2 _ rfl, hc 3 _ rfl, hc 4 _ rfl, hc 5 _ rfl, hc 6 _ rfl, hc 7 _ rfl, hc 8 _ rfl, hc 9 _ rfl, hc 10 _ rfl⟩
theorem ActAt.slice {w : World} {v : Value} {L : List A11} (h : ActAt w v L) : ∃ s cap, v = .slice s L.length cap ∧ L.length ≤ maxLen := by
  obtain ⟨s, cap, rfl, h1, h2, h3, h4⟩ := h
  exact ⟨s, cap, rfl, by omega⟩
def AFit (L : List A11) : Prop := ∀ (k p x q y f : Int) (m : Bool) (a b c d : Nat), (k, p, x, q, y, f, m, a, b, c, d) ∈ L → a < 18446744073709551616 ∧ b < 18446744073709551616 ∧ c < 18446744073709551616 ∧ d < 18446744073709551616
def artO (o : A11) : Bool := art o.1 o.2.1 o.2.2.1 o.2.2.2.1 o.2.2.2.2.1 o.2.2.2.2.2.1 o.2.2.2.2.2.2.1 o.2.2.2.2.2.2.2.1 o.2.2.2.2.2.2.2.2.1 o.2.2.2.2.2.2.2.2.2.1 o.2.2.2.2.2.2.2.2.2.2
def aencO (o : A11) : List Int := aencL o.1 o.2.1 o.2.2.1 o.2.2.2.1 o.2.2.2.2.1 o.2.2.2.2.2.1 o.2.2.2.2.2.2.1 o.2.2.2.2.2.2.2.1 o.2.2.2.2.2.2.2.2.1 o.2.2.2.2.2.2.2.2.2.1 o.2.2.2.2.2.2.2.2.2.2
def encA (L : List A11) : List Int := L.flatMap aencO
theorem AFit.tail {o : A11} {r : List A11} (h : AFit (o :: r)) : AFit r := fun k p x q y f m a b c d hi => h k p x q y f m a b c d (by simp [hi])
theorem aenc_len {k p x q y f : Int} {m : Bool} {a b c d : Nat} (ha : a < 18446744073709551616) (hb : b < 18446744073709551616) (hc : c < 18446744073709551616) (hd : d < 18446744073709551616) (h : art k p x q y f m a b c d = true) : (aencL k p x q y f m a b c d).length ≤ 60 ∧ (aencL k p x q y f m a b c d).length % 8 = 0 ∧ 8 ≤ (aencL k p x q y f m a b c d).length := by
  have h1 := bodyL_le k p x q y f m a b c d
  have h2 := r8_ge (4 + (bodyL k p x q y f m a b c d).length)
  have h3 := r8_le (4 + (bodyL k p x q y f m a b c d).length)
  have e : (aencL k p x q y f m a b c d).length = r8 (4 + (bodyL k p x q y f m a b c d).length) := by
    unfold aencL
    simp only [List.length_append, spl_len2, List.length_replicate]
    omega
  have h4 : r8 (4 + (bodyL k p x q y f m a b c d).length) % 8 = 0 := by unfold r8; omega
  exact ⟨by omega, by omega, by omega⟩
theorem encA_len : ∀ (L : List A11), AFit L → L.all artO = true → (encA L).length ≤ L.length * 60
  | [], _, _ => by simp [encA]
  | (k, p, x, q, y, f, m, a, b, c, d) :: r, hF, hr => by
    have hr' : art k p x q y f m a b c d = true ∧ r.all artO = true := by
      rw [List.all_cons, Bool.and_eq_true] at hr
      exact hr
    obtain ⟨g1, g2, g3, g4⟩ := hF k p x q y f m a b c d (by simp)
    have h1 := (aenc_len g1 g2 g3 g4 hr'.1).1
    have h2 := encA_len r hF.tail hr'.2
    have e : encA ((k, p, x, q, y, f, m, a, b, c, d) :: r) = aencL k p x q y f m a b c d ++ encA r := by simp [encA, aencO]
    rw [e, List.length_append, List.length_cons]
    omega
theorem take_sameA {L K : List A11} {k : Nat} {x y : A11} (h : L.take k = K.take k) (hx : L[k]? = some x) (hy : K[k]? = some y) (e : x = y) : L.take (k + 1) = K.take (k + 1) := by
  rw [List.take_add_one, List.take_add_one, h, hx, hy, e]
theorem take_diffA {L K : List A11} {k : Nat} {x y : A11} (hx : L[k]? = some x) (hy : K[k]? = some y) (e : ¬ x = y) : ¬ L = K := by
  intro h
  rw [h, hy] at hx
  injection hx with hx
  exact e hx.symm
theorem sameB_true (k p x q y f : Int) (m : Bool) (a b c d : Nat) (k2 p2 x2 q2 y2 f2 : Int) (m2 : Bool) (a2 b2 c2 d2 : Nat) (h : sameB k p x q y f m a b c d k2 p2 x2 q2 y2 f2 m2 a2 b2 c2 d2 = true) : ((k, p, x, q, y, f, m, a, b, c, d) : A11) = (k2, p2, x2, q2, y2, f2, m2, a2, b2, c2, d2) := by
  unfold sameB at h
  simp only [Bool.and_eq_true, decide_eq_true_eq, Prod.mk.injEq] at h
  obtain ⟨rfl, rfl, rfl, rfl, rfl, rfl, rfl, rfl, rfl, rfl, rfl⟩ := h
  rfl
theorem sameB_refl (k p x q y f : Int) (m : Bool) (a b c d : Nat) : sameB k p x q y f m a b c d k p x q y f m a b c d = true := by
  unfold sameB
  simp
theorem sameB_false (k p x q y f : Int) (m : Bool) (a b c d : Nat) (k2 p2 x2 q2 y2 f2 : Int) (m2 : Bool) (a2 b2 c2 d2 : Nat) (h : sameB k p x q y f m a b c d k2 p2 x2 q2 y2 f2 m2 a2 b2 c2 d2 = false) : ¬ ((k, p, x, q, y, f, m, a, b, c, d) : A11) = (k2, p2, x2, q2, y2, f2, m2, a2, b2, c2, d2) := by
  intro e
  simp only [Prod.mk.injEq] at e
  obtain ⟨rfl, rfl, rfl, rfl, rfl, rfl, rfl, rfl, rfl, rfl, rfl⟩ := e
  rw [sameB_refl] at h
  cases h
def sameO (x y : A11) : Bool := sameB x.1 x.2.1 x.2.2.1 x.2.2.2.1 x.2.2.2.2.1 x.2.2.2.2.2.1 x.2.2.2.2.2.2.1 x.2.2.2.2.2.2.2.1 x.2.2.2.2.2.2.2.2.1 x.2.2.2.2.2.2.2.2.2.1 x.2.2.2.2.2.2.2.2.2.2 y.1 y.2.1 y.2.2.1 y.2.2.2.1 y.2.2.2.2.1 y.2.2.2.2.2.1 y.2.2.2.2.2.2.1 y.2.2.2.2.2.2.2.1 y.2.2.2.2.2.2.2.2.1 y.2.2.2.2.2.2.2.2.2.1 y.2.2.2.2.2.2.2.2.2.2
def sameL : List A11 → List A11 → Bool
  | [], [] => true
  | x :: r, y :: t => sameO x y && sameL r t
  | _, _ => false
theorem sameL_refl : ∀ L : List A11, sameL L L = true
  | [] => rfl
  | x :: r => by
    have h1 : sameO x x = true := sameB_refl _ _ _ _ _ _ _ _ _ _ _
    simp [sameL, h1, sameL_refl r]
theorem sameL_true {L K : List A11} (h : L = K) : sameL L K = true := by rw [h]; exact sameL_refl K
theorem sameL_eq : ∀ {L K : List A11}, sameL L K = true → L = K
  | [], [], _ => rfl
  | [], y :: t, h => by simp [sameL] at h
  | x :: r, [], h => by simp [sameL] at h
  | x :: r, y :: t, h => by
    simp only [sameL, Bool.and_eq_true] at h
    have e1 : x = y := sameB_true _ _ _ _ _ _ _ _ _ _ _ _ _ _ _ _ _ _ _ _ _ _ h.1
    rw [e1, sameL_eq h.2]
theorem sameL_false {L K : List A11} (h : ¬ L = K) : sameL L K = false := by
  cases e : sameL L K
  · rfl
  · exact absurd (sameL_eq e) h
theorem infoAc : (Tryz.prog.info? 61).map (fun i => (i.zero, i.size, i.bytes)) = some (some (.agg #[.int .i64 0, .int .i64 0, .int .i64 0, .int .i64 0, .int .i64 0, .int .i64 0, .bool false, .int .u64 0, .int .u64 0, .int .u64 0, .int .u64 0]), 11, 88) := by kernel_rfl
theorem infoSl : (Tryz.prog.info? 25).map (fun i => (i.zero, i.size, i.bytes)) = some (some (.slice none 0 0), 1, 24) := by kernel_rfl
theorem ownr_later {w w' : World} {base n size : Nat} {e : TypeId} {v : Value} {xs : List Value} (h : w.ownsRow base e size v n xs) (hb : Below w.heap.size w w') : w'.ownsRow base e size v n xs := by
  refine ⟨h.1, ?_⟩
  rcases h.2 with hn | ⟨g, cap, cur, rfl, hbg, hg, rest⟩
  · exact .inl hn
  · refine .inr ⟨g, cap, cur, rfl, hbg, ?_, rest⟩
    rw [hb.block g (Array.getElem?_eq_some_iff.1 hg).1]
    exact hg
theorem ownr_base {w : World} {base base' n size : Nat} {e : TypeId} {v : Value} {xs : List Value} (h : w.ownsRow base e size v n xs) (hb : base' ≤ base) : w.ownsRow base' e size v n xs := by
  refine ⟨h.1, ?_⟩
  rcases h.2 with hn | ⟨g, cap, cur, rfl, hbg, rest⟩
  · exact .inl hn
  · exact .inr ⟨g, cap, cur, rfl, Nat.le_trans hb hbg, rest⟩
theorem ownr_form {w : World} {base n size : Nat} {e : TypeId} {v : Value} {xs : List Value} (h : w.ownsRow base e size v n xs) : ∃ s c, v = .slice s n c := by
  rcases h.2 with ⟨rfl, rfl⟩ | ⟨g, cap, cur, rfl, _⟩
  · exact ⟨_, _, rfl⟩
  · exact ⟨_, _, rfl⟩
theorem lenc_no (k p x q y f : Int) (m : Bool) (a b c d : Nat) (w : World) (ha : a < 18446744073709551616) (hb : b < 18446744073709551616) (hc : c < 18446744073709551616) (hd : d < 18446744073709551616) (h : art k p x q y f m a b c d = false) :
    Calls Tryz.prog 84 #[.agg #[.int .i64 k, .int .i64 p, .int .i64 x, .int .i64 q, .int .i64 y, .int .i64 f, .bool m, .int .u64 (a : Int), .int .u64 (b : Int), .int .u64 (c : Int), .int .u64 (d : Int)]] w fun e w' => e = .returned (.tuple #[.slice none 0 0, .bool false]) ∧ Below w.heap.size w w' := by
  have B0 := h_ (below1 w (.cells #[.int .i64 k, .int .i64 p, .int .i64 x, .int .i64 q, .int .i64 y, .int .i64 f, .bool m, .int .u64 (a : Int), .int .u64 (b : Int), .int .u64 (c : Int), .int .u64 (d : Int)] 61))
  obtain ⟨x0, x1, x2, x3, x4, x5, x6, x7, x8, x9, x10, -⟩ := (AB.at0 w 61 [.int .i64 k, .int .i64 p, .int .i64 x, .int .i64 q, .int .i64 y, .int .i64 f, .bool m, .int .u64 (a : Int), .int .u64 (b : Int), .int .u64 (c : Int), .int .u64 (d : Int)]).eleven
  have q := fun w => aenc_no k p x q y f m a b c d w ha hb hc hd h
  unfold av at q
  have q := h_ q
  clear ha hb hc hd h
  go_enter Tryz.func84, Tryz.ntmps84
  go_wp2_with (go_at_call 85; refine (q.out _).mono ?_; rintro e w1 ⟨rfl, b1⟩)
  go_ret2
  exact ⟨by first | rfl | simp, B0.out.trans (b1.mono B0.out.size)⟩
theorem lenc_yes (k p x q y f : Int) (m : Bool) (a b c d : Nat) (w : World) (ha : a < 18446744073709551616) (hb : b < 18446744073709551616) (hc : c < 18446744073709551616) (hd : d < 18446744073709551616) (h : art k p x q y f m a b c d = true) :
    Calls Tryz.prog 84 #[.agg #[.int .i64 k, .int .i64 p, .int .i64 x, .int .i64 q, .int .i64 y, .int .i64 f, .bool m, .int .u64 (a : Int), .int .u64 (b : Int), .int .u64 (c : Int), .int .u64 (d : Int)]] w fun e w' => ∃ r, e = .returned (.tuple #[r, .bool true]) ∧ OwnB w' w.heap.size r (aencL k p x q y f m a b c d) ∧ Below w.heap.size w w' := by
  have B0 := h_ (below1 w (.cells #[.int .i64 k, .int .i64 p, .int .i64 x, .int .i64 q, .int .i64 y, .int .i64 f, .bool m, .int .u64 (a : Int), .int .u64 (b : Int), .int .u64 (c : Int), .int .u64 (d : Int)] 61))
  obtain ⟨x0, x1, x2, x3, x4, x5, x6, x7, x8, x9, x10, -⟩ := (AB.at0 w 61 [.int .i64 k, .int .i64 p, .int .i64 x, .int .i64 q, .int .i64 y, .int .i64 f, .bool m, .int .u64 (a : Int), .int .u64 (b : Int), .int .u64 (c : Int), .int .u64 (d : Int)]).eleven
  have q := fun w => aenc_own k p x q y f m a b c d w ha hb hc hd h
  unfold av at q
  have q := h_ q
  clear ha hb hc hd h
  go_enter Tryz.func84, Tryz.ntmps84
  go_wp2_with (go_at_call 85; refine (q.out _).mono ?_; rintro e w1 ⟨r, rfl, h1, b1⟩; have h1 := h_ h1)
  go_ret2
  exact ⟨r, by first | rfl | simp, h1.out.mono B0.out.size, B0.out.trans (b1.mono B0.out.size)⟩
theorem OwnB.beside {w w' : World} {base base2 n : Nat} {v r : Value} {xs : List Value} {l : List Int} (h : OwnB w base v l) (hr : w.ownsRow base2 25 1 r n xs) (hg : w.grownBy w' r.ownBlock) : OwnB w' base v l := by
  refine ⟨⟨h.1.1, ?_⟩, h.2⟩
  rcases h.1.2 with hn | ⟨g, cap, cur, rfl, hbg, hc, rest⟩
  · exact .inl hn
  · refine .inr ⟨g, cap, cur, rfl, hbg, ?_, rest⟩
    rcases hr.2 with ⟨rfl, _⟩ | ⟨g2, cap2, cur2, rfl, hbg2, hc2, _⟩
    · rw [hg.block g (Array.getElem?_eq_some_iff.1 hc).1 (fun e => by cases e)]
      exact hc
    · have hne : g ≠ g2 := by
        rintro rfl
        rw [hc] at hc2
        cases hc2
      rw [hg.block g (Array.getElem?_eq_some_iff.1 hc).1 (fun e => by injection e with e; exact hne e)]
      exact hc
def BAll (w : World) (base : Nat) (vs : List Value) (K : List A11) : Prop := vs.length = K.length ∧ ∀ (i : Nat) (u : Value) (o : A11), vs[i]? = some u → K[i]? = some o → OwnB w base u (aencO o)
theorem BAll.later {w w' : World} {base : Nat} {vs : List Value} {K : List A11} (h : BAll w base vs K) (hb : Below w.heap.size w w') : BAll w' base vs K := ⟨h.1, fun i u o hu ho => (h.2 i u o hu ho).later hb⟩
theorem BAll.nil (w : World) (base : Nat) : BAll w base [] [] := ⟨rfl, fun i u o h => by simp at h⟩
theorem BAll.beside {w w' : World} {base base2 n : Nat} {r : Value} {xs vs : List Value} {K : List A11} (h : BAll w base vs K) (hr : w.ownsRow base2 25 1 r n xs) (hg : w.grownBy w' r.ownBlock) : BAll w' base vs K := ⟨h.1, fun i u o hu ho => (h.2 i u o hu ho).beside hr hg⟩
theorem BAll.snoc {w : World} {base : Nat} {vs : List Value} {K : List A11} {u : Value} {o : A11} (h : BAll w base vs K) (hu : OwnB w base u (aencO o)) : BAll w base (vs ++ [u]) (K ++ [o]) := by
  refine ⟨by simp [h.1], fun i u' o' h1 h2 => ?_⟩
  by_cases hi : i < vs.length
  · rw [List.getElem?_append_left hi] at h1
    rw [List.getElem?_append_left (by have := h.1; omega)] at h2
    exact h.2 i u' o' h1 h2
  · have h1' := (List.getElem?_eq_some_iff.1 h1).1
    simp at h1'
    have e : i = vs.length := by omega
    subst e
    rw [List.getElem?_append_right (Nat.le_refl _)] at h1
    rw [h.1, List.getElem?_append_right (Nat.le_refl _)] at h2
    simp at h1 h2
    subst h1 h2
    exact hu
theorem wpList_append_newG {P : Program} {ops : Array Oper} {rest : List Oper} {o : Oper} {a : Act} {Q : Exit → Act → World → Prop} (s x : Operand) (t : TypeId)
    (ho : o.op = .call { callee := .builtin .append, args := #[s, x], argTypes := #[t, t] })
    (e : TypeId) (i : TypeInfo) (z : Value) (size bytes : Nat) (ht : P.underlying t = some (.slice e)) (hi : P.info? e = some i) (hz : i.zero = some z)
    (hsize : i.size = size) (hby : i.bytes = bytes) (hzs : z.cells.size = size) (hsz : 0 < size)
    (base : Nat) (v : Value) (n : Nat) (xs : List Value) (hs : a.eval s = v) (w0 : World) (hown : w0.ownsRow base e size v n xs)
    (news : List Value) (cells : Array Value) (hc : cells = news.toArray) (m : Nat) (hm : news.length = m * size) (h1 : ∀ u ∈ news, u.oneCell' = true) (hx : a.eval x = .slice (some ⟨w0.heap.size, 0, none⟩) m m) (hw : Region.wanted o (yielded ops a.tmps) = true)
    (h63 : n + m ≤ maxLen) (hbytes : (n + m) * bytes ≤ 140737488355328) (hbase : base ≤ w0.heap.size)
    (h : ∀ v' w', w'.ownsRow base e size v' (n + m) (xs ++ news) → Below base w0 w' → (w0.alloc (.cells news.toArray e)).grownBy w' v.ownBlock → wpList P ops Q rest (a.put o.dst v') w') : wpList P ops Q (o :: rest) a (w0.alloc (.cells cells e)) := by
  subst hc
  refine wpList_wanted hw fun K hK => ?_
  refine wp_append_own (w0.alloc (.cells news.toArray e)) s x t ho base e i z size bytes ht hi hz hsize hby hzs hsz v n xs hs (hown.alloc _) ⟨w0.heap.size, 0, none⟩ m m news hx hm ?_ h1 h63 hbytes (by simp; omega) (fun v' w' a1 a2 _ => hK _ _ (h v' w' a1 ?_ a2))
  · intro j u hu
    rw [Addr.add_lit, World.cell?_alloc_new]
    simpa using hu
  · have hlt := hown.lt
    exact (by go_grown : Below base w0 (w0.alloc (.cells news.toArray e))).trans ((Below.refl base _).grown a2 (by simp; omega) (fun k hk => (hlt k hk).1))
theorem filter_le (L : List A11) (j : Nat) : ((L.take j).filter artO).length ≤ L.length := by
  have h1 := List.length_filter_le artO (L.take j)
  rw [List.length_take] at h1
  omega
theorem ltell_any (v : Value) (L : List A11) (w : World) (hL : ActAt w v L) (hF : AFit L) (hlen : L.length ≤ 1000000) :
    Calls Tryz.prog 83 #[v, (.func (.func 84) #[] #[])] w fun e w' => ∃ (r : Value) (vs : List Value), e = .returned r ∧ w'.ownsRow w.heap.size 25 1 r vs.length vs ∧ BAll w' w.heap.size vs (L.filter artO) ∧ Below w.heap.size w w' := by
  obtain ⟨s, cap, rfl, h1, h2, h3, h4⟩ := hL
  have HL := h_ h4
  have HF := h_ (@hF)
  have hm : L.length ≤ 9223372036854775807 := by unfold maxLen at h2; omega
  clear h1 h2 h3 h4 hF
  obtain ⟨i0, hi0, hz0, hz1, hz2⟩ := info_parts infoSl
  have HI : Hid (Tryz.prog.info? 25 = some i0 ∧ i0.zero = some (.slice none 0 0) ∧ i0.size = 1 ∧ i0.bytes = 24) := ⟨hi0, hz0, hz1, hz2⟩
  clear hi0 hz0 hz1 hz2
  go_enter Tryz.func83, Tryz.ntmps83
  go_wp2
  go_loopw [5, 12] (fun u i wr => ∃ (j : Nat) (ua : Option Addr) (uc : Nat) (vs : List Value), j ≤ L.length ∧ i = .int .i64 j ∧ u = .slice ua vs.length uc ∧ vs.length ≤ L.length ∧ Hid (wr.ownsRow w.heap.size 25 1 (.slice ua vs.length uc) vs.length vs) ∧ Hid (BAll wr w.heap.size vs ((L.take j).filter artO)) ∧ Hid (Below w.heap.size w wr)) (fun _ i _ => L.length - (intOf i).toNat)
  case atStart => exact ⟨0, none, 0, [], Nat.zero_le _, rfl, rfl, by simp, h_ (World.ownsRow_nil _ _ _ _), h_ (BAll.nil _ _), h_ (Below.refl _ _)⟩
  case round =>
    obtain ⟨j, ua, uc, vs, hj, rfl, rfl, hvs, HO, HA, KB⟩ := hrel
    by_cases hlt : j < L.length
    · skip
      obtain ⟨⟨k, p, x, q, y, f, m, a, b, c, d⟩, hz⟩ : ∃ z, L[j]? = some z := ⟨_, List.getElem?_eq_getElem hlt⟩
      obtain ⟨bq, off, rfl, X0, X1, X2, X3, X4, X5, X6, X7, X8, X9, X10⟩ := act11 HL.out hz
      have X0 := cell_later KB.out X0
      have X1 := cell_later KB.out X1
      have X2 := cell_later KB.out X2
      have X3 := cell_later KB.out X3
      have X4 := cell_later KB.out X4
      have X5 := cell_later KB.out X5
      have X6 := cell_later KB.out X6
      have X7 := cell_later KB.out X7
      have X8 := cell_later KB.out X8
      have X9 := cell_later KB.out X9
      have X10 := cell_later KB.out X10
      obtain ⟨g1, g2, g3, g4⟩ := HF.out k p x q y f m a b c d (List.mem_of_getElem? hz)
      have hlt' : (j : Int) < (L.length : Int) := by omega
      have htk : L.take (j + 1) = L.take j ++ [(k, p, x, q, y, f, m, a, b, c, d)] := by rw [List.take_add_one, hz]; rfl
      have HTK := h_ htk
      clear hz htk
      have BB := h_ (below1 wr (.cells #[.int .i64 k, .int .i64 p, .int .i64 x, .int .i64 q, .int .i64 y, .int .i64 f, .bool m, .int .u64 (a : Int), .int .u64 (b : Int), .int .u64 (c : Int), .int .u64 (d : Int)] 61))
      have KA := h_ (KB.out.trans (BB.out.mono KB.out.size))
      cases hk : art k p x q y f m a b c d
      · have qc := h_ (fun w => lenc_no k p x q y f m a b c d w g1 g2 g3 g4 hk)
        have HK := h_ hk
        clear hk g1 g2 g3 g4
        go_wp2_with (go_at_call 84; refine (qc.out _).mono ?_; rintro e w3 ⟨rfl, b3⟩; have j3 := BB.out.trans (b3.mono BB.out.size); have K3 := KB.out.trans (j3.mono KB.out.size))
        have hee : (L.take (j + 1)).filter artO = (L.take j).filter artO := by rw [HTK.out, List.filter_append]; simp [artO, HK.out]
        go_roundw
        case rel => exact ⟨j + 1, ua, uc, vs, by omega, by go_num, rfl, hvs, h_ (ownr_later HO.out j3), h_ (by rw [hee]; exact HA.out.later j3), h_ K3⟩
        case measure => simp [intOf]; omega
      · have qc := h_ (fun w => lenc_yes k p x q y f m a b c d w g1 g2 g3 g4 hk)
        have HK := h_ hk
        clear hk g1 g2 g3 g4
        go_wp2_with (first | (go_at_call 84; refine (qc.out _).mono ?_; rintro e w3 ⟨r, rfl, h3, b3⟩; have j3 := BB.out.trans (b3.mono BB.out.size); have K3 := KB.out.trans (j3.mono KB.out.size); obtain ⟨ra, rc, hre⟩ := h3.bytes.short; subst hre; have H3 := h_ (h3.mono KA.out.size); clear h3; generalize (aencL k p x q y f m a b c d).length = rn at *) | (at_builtin; refine wpList_append_newG (.tmp 23) (.tmp 25) 113 rfl 25 i0 (.slice none 0 0) 1 24 Tryz.underlying113 HI.out.1 HI.out.2.1 HI.out.2.2.1 HI.out.2.2.2 rfl (by decide) w.heap.size (.slice ua vs.length uc) vs.length vs (by simp [Act.eval, Act.put]) w3 (ownr_later HO.out j3) [.slice ra rn rc] _ rfl 1 (by simp) (by simp [Value.oneCell']) (by simp [Act.eval, Act.put]) (by simp [Region.wanted]) (by unfold maxLen; omega) (by omega) K3.size ?_; intro v4 w4 own4 b4 g4))
        have S3 : BAll w3 w.heap.size (vs ++ [Value.slice ra rn rc]) ((L.take j).filter artO ++ [(k, p, x, q, y, f, m, a, b, c, d)]) := (HA.out.later j3).snoc H3.out
        have S4 : BAll (w3.alloc (.cells [Value.slice ra rn rc].toArray 25)) w.heap.size (vs ++ [Value.slice ra rn rc]) ((L.take j).filter artO ++ [(k, p, x, q, y, f, m, a, b, c, d)]) := S3.later (below1 w3 (.cells [Value.slice ra rn rc].toArray 25))
        have R4 : (w3.alloc (.cells [Value.slice ra rn rc].toArray 25)).ownsRow w.heap.size 25 1 (.slice ua vs.length uc) vs.length vs := (ownr_later HO.out j3).alloc (.cells [Value.slice ra rn rc].toArray 25)
        have S5 := S4.beside R4 g4
        have ee : (L.take (j + 1)).filter artO = (L.take j).filter artO ++ [(k, p, x, q, y, f, m, a, b, c, d)] := by
          have ha : artO (k, p, x, q, y, f, m, a, b, c, d) = true := HK.out
          rw [HTK.out, List.filter_append, List.filter_cons, if_pos ha]
          rfl
        have A4 : BAll w4 w.heap.size (vs ++ [Value.slice ra rn rc]) ((L.take (j + 1)).filter artO) := by rw [ee]; exact S5
        clear S3 S4 R4 S5 ee g4
        have own4 : w4.ownsRow w.heap.size 25 1 v4 (vs ++ [Value.slice ra rn rc]).length (vs ++ [.slice ra rn rc]) := by
          rw [List.length_append]
          exact own4
        have hv4 : (vs ++ [Value.slice ra rn rc]).length ≤ L.length := by
          rw [A4.1]
          exact filter_le L _
        obtain ⟨ua4, uc4, e4⟩ := ownr_form own4
        subst e4
        have own4 := h_ own4
        have A4 := h_ A4
        go_wp2
        go_roundw
        case rel => exact ⟨j + 1, ua4, uc4, vs ++ [.slice ra rn rc], by omega, by go_num, rfl, hv4, own4, A4, h_ (K3.trans b4)⟩
        case measure => simp [intOf]; omega
    · have hlt' : ¬ (j : Int) < (L.length : Int) := by omega
      have e := HA.out
      rw [List.take_of_length_le (by omega)] at e
      have HA := h_ e
      clear e
      go_wp2
      go_ret
      exact ⟨_, rfl, vs, HO.out, HA.out, KB.out⟩
theorem info8g : (Tryz.prog.info? 5).map (fun i => (i.zero, i.size, i.bytes)) = some (some (.int .u8 0), 1, 1) := by kernel_rfl
theorem own_take0 {w : World} {base n cap : Nat} {s : Option Addr} {xs : List Value} {e : TypeId} (h : w.ownsRow base e 1 (.slice s n cap) n xs) : w.ownsRow base e 1 (.slice s 0 cap) 0 [] := by
  refine ⟨rfl, ?_⟩
  rcases h.2 with ⟨e1, _⟩ | ⟨g, cap', cur, e1, hb, hg, h1, h2, h3, h4⟩
  · cases e1
    exact .inl ⟨rfl, rfl⟩
  · cases e1
    exact .inr ⟨g, cap, cur, rfl, hb, hg, Nat.zero_le _, h2, h3, by simp⟩
theorem run_append_nil0 {P : Program} (w : World) (t tn ty e : TypeId) (i : TypeInfo) (ht : P.underlying t = some (.slice e)) (htn : P.underlying tn = some (.int .i64)) (hi : P.info? e = some i) (hz : i.zero = some (.int .u8 0)) (hsize : i.size = 1) (hby : i.bytes = 1)
    (m : Nat) (h0 : 0 < m) (hm : m ≤ 1000000) : ∃ (g cap : Nat) (w' : World), (Builtin.append_ #[t, tn] ty #[.slice none 0 0, .int .i64 (m : Int)]).run P w = .ok (.slice (some ⟨g, 0, none⟩) m cap) w' ∧ m ≤ cap ∧ cap ≤ maxLen ∧ w'.ownsRow w.heap.size e 1 (.slice (some ⟨g, 0, none⟩) m cap) m (List.replicate m (.int .u8 0)) ∧ Below w.heap.size w w' := by
  have hr := Lib.run_append_nil_zeros (P := P) w t tn ty e i (.int .u8 0) .i64 .i64 ht htn hi hz m h0 (by omega) (by omega) (by rw [hby]; omega)
  refine ⟨_, _, _, hr, grownCap_ge w m 0 e, grownCap_le_maxLen w m 0 e (by unfold maxLen; omega), ⟨by simp, .inr ⟨w.heap.size, _, _, rfl, Nat.le_refl _, heap_alloc_last w.drew _, grownCap_ge w m 0 e, grownCap_le_maxLen w m 0 e (by unfold maxLen; omega), ?_, ?_⟩⟩, ((Below.refl _ _).drew).alloc (Nat.le_refl _) _⟩
  · have := grownCap_ge w m 0 e
    simp [Value.cells, zc_list]
    omega
  · simp [Value.cells, zc_list]
theorem grow_any (n : Nat) (w : World) (hn : n ≤ 1000000) :
    Calls Tryz.prog 118 #[.slice none 0 0, .int .i64 (n : Int)] w fun e w' => ∃ r, e = .returned r ∧ w'.ownsRow w.heap.size 5 1 r 0 [] ∧ Below w.heap.size w w' := by
  obtain ⟨i0, hi0, hz0, hz1, hz2⟩ := info_parts info8g
  have w0 : IntKind.i64.wrap ((n : Int) - 0) = (n : Int) := by rw [IntKind.wrap_i64]; omega
  by_cases h0 : n = 0
  · subst h0
    go_enter Tryz.func118, Tryz.ntmps118
    go_wp2
    go_ret
    exact ⟨_, rfl, World.ownsRow_nil _ _ _ _, Below.refl _ _⟩
  · have g0 : ¬ ((n : Int) < 0) := by omega
    have g1 : (0 : Int) < (n : Int) := by omega
    obtain ⟨g, cap, w9, hr, hc1, hc2, ho, hb⟩ := run_append_nil0 (P := Tryz.prog) w 25 3 25 5 i0 Tryz.underlying25 Tryz.underlying3 hi0 hz0 hz1 hz2 n (by omega) hn
    have HR := h_ hr
    have HO := h_ ho
    have hsl : ∀ wx, (Instr.slice 25 (.slice (some ⟨g, 0, none⟩) n cap) none (some (.int .i64 0)) none).run Tryz.prog wx = .ok (.slice (some ⟨g, 0, none⟩) 0 cap) wx := by
      intro wx
      have sz : ∀ w, (sizeOf (Tryz.prog.elem 25)).run Tryz.prog w = .ok 1 w := fun w => by kernel_rfl
      have := run_slice_h (P := Tryz.prog) wx 25 (some ⟨g, 0, none⟩) n cap (by kernel_rfl) .i64 0 (by omega) (by omega)
      rw [this, sz]
      simp [sliced, Addr.add_lit]
    clear hr ho hi0 hz0 hz1 hz2
    go_enter Tryz.func118, Tryz.ntmps118
    go_wp2_with (at_builtin; refine Lib.wpList_append_run w rfl (.tmp 20) (.tmp 21) 25 3 rfl _ _ (by first | rfl | simp [Act.eval, Act.put]) (by first | rfl | simp [Act.eval, Act.put]) _ _ HR.out ?_)
    go_ret
    exact ⟨_, rfl, own_take0 HO.out, hb⟩
def flt (ls : List (List Int)) (j : Nat) : List Int := (ls.take j).flatten
theorem flt_succ {ls : List (List Int)} {j : Nat} {l : List Int} (h : ls[j]? = some l) : flt ls (j + 1) = flt ls j ++ l := by
  unfold flt
  rw [List.take_add_one, h]; simp
theorem flt_le (ls : List (List Int)) (j : Nat) : (flt ls j).length ≤ (flt ls ls.length).length := by
  have e : flt ls ls.length = flt ls j ++ (ls.drop j).flatten := by unfold flt; rw [List.take_of_length_le (Nat.le_refl _), ← List.flatten_append, List.take_append_drop]
  rw [e, List.length_append]
  omega
theorem flt_all (ls : List (List Int)) : flt ls ls.length = ls.flatten := by unfold flt; rw [List.take_of_length_le (Nat.le_refl _)]
theorem concat_any (v : Value) (vs : List Value) (ls : List (List Int)) (w : World) (hC : Cells w v 1 vs.length vs) (hA : ∀ (i : Nat) (u : Value) (l : List Int), vs[i]? = some u → ls[i]? = some l → Bytes w u l) (hl : vs.length = ls.length) (hT : (flt ls ls.length).length ≤ 1000000) :
    Calls Tryz.prog 86 #[v] w fun e w' => ∃ r, e = .returned r ∧ OwnB w' w.heap.size r (flt ls ls.length) ∧ Below w.heap.size w w' := by
  obtain ⟨a, cap, rfl⟩ : ∃ a cap, v = .slice a vs.length cap := by obtain ⟨_, a, cap, e, _⟩ := hC; exact ⟨a, cap, e⟩
  obtain ⟨_, hm, _, hc⟩ := hC.at
  have HC := h_ hc
  have HA := h_ hA
  unfold maxLen at hm
  obtain ⟨i0, hi0, hz0, hz1, hz2⟩ := info_parts info8g
  have HI : Hid (Tryz.prog.info? 5 = some i0 ∧ i0.zero = some (.int .u8 0) ∧ i0.size = 1 ∧ i0.bytes = 1) := ⟨hi0, hz0, hz1, hz2⟩
  clear hi0 hz0 hz1 hz2 hc hA hC
  have hm2 : ls.length ≤ 9223372036854775807 := by omega
  rw [hl]
  have HLN := h_ hl
  have HTT := h_ hT
  clear hl hT hm
  go_enter Tryz.func86, Tryz.ntmps86
  go_wp2
  go_loopw [3, 11] (fun z i wr => ∃ j : Nat, j ≤ ls.length ∧ i = .int .i64 j ∧ z = .int .i64 (((flt ls j).length : Nat) : Int) ∧ Hid (Below w.heap.size w wr)) (fun _ i _ => ls.length - (intOf i).toNat)
  case atStart => exact ⟨0, Nat.zero_le _, rfl, rfl, h_ (Below.refl _ _)⟩
  case round =>
    obtain ⟨j, hj, rfl, rfl, K0⟩ := hrel
    by_cases hlt : j < ls.length
    · obtain ⟨l, hlj⟩ : ∃ l, ls[j]? = some l := ⟨_, List.getElem?_eq_getElem hlt⟩
      obtain ⟨u, hu⟩ : ∃ u, vs[j]? = some u := ⟨_, List.getElem?_eq_getElem (by have := HLN.out; omega)⟩
      obtain ⟨b, off, rfl, c0⟩ := HC.out j u hu
      obtain ⟨ua, uc, rfl⟩ := (HA.out j u l hu hlj).short
      have c0 := cell_later K0.out c0
      have hsum := flt_le ls (j + 1)
      have e1 : (flt ls (j + 1)).length = (flt ls j).length + l.length := by rw [flt_succ hlj, List.length_append]
      have hw : IntKind.i64.wrap (((flt ls j).length : Int) + (l.length : Int)) = (((flt ls (j + 1)).length : Nat) : Int) := by have := HTT.out; rw [IntKind.wrap_i64]; omega
      have hng : ¬ ((((flt ls (j + 1)).length : Nat) : Int) < 0) := by omega
      clear hu hlj hsum e1
      have hlt' : (j : Int) < (ls.length : Int) := by omega
      generalize hM1 : (flt ls (j + 1)).length = m1 at *
      have HM1 := h_ hM1
      clear hM1
      generalize (flt ls j).length = m0 at *
      go_wp2_with fail
      go_roundw
      case rel => exact ⟨j + 1, by omega, by go_num, by rw [HM1.out], K0⟩
      case measure => simp [intOf]; omega
    · have hlt' : ¬ (j : Int) < (ls.length : Int) := by omega
      obtain rfl : j = ls.length := by omega
      have qg := h_ (fun w => grow_any (flt ls ls.length).length w HTT.out)
      have HB0 := h_ (fun j => Nat.le_trans (flt_le ls j) HTT.out)
      generalize (flt ls ls.length).length = N at *
      go_wp2_with (go_at_call 118; refine (qg.out _).mono ?_; rintro e w1 ⟨r, rfl, h1, b1⟩; have h1 := h_ (ownr_base h1 K0.out.size); have b1 := K0.out.trans (b1.mono K0.out.size))
      obtain ⟨ra, rc, re⟩ := ownr_form h1.out
      subst re
      clear hlt hlt' hj
      go_loopw [6, 27] (fun z i wr => ∃ (j : Nat) (za : Option Addr) (zc : Nat), j ≤ ls.length ∧ i = .int .i64 j ∧ z = .slice za (flt ls j).length zc ∧ Hid (OwnB wr w.heap.size (.slice za (flt ls j).length zc) (flt ls j)) ∧ Hid (Below w.heap.size w wr)) (fun _ i _ => ls.length - (intOf i).toNat)
      case atStart => exact ⟨0, ra, rc, Nat.zero_le _, rfl, rfl, h_ ⟨h1.out, fun z hz => by simp [flt] at hz⟩, h_ b1⟩
      case round =>
        obtain ⟨j, za, zc, hj, rfl, rfl, HO, KB⟩ := hrel
        by_cases hlt : j < ls.length
        · obtain ⟨l, hlj⟩ : ∃ l, ls[j]? = some l := ⟨_, List.getElem?_eq_getElem hlt⟩
          obtain ⟨u, hu⟩ : ∃ u, vs[j]? = some u := ⟨_, List.getElem?_eq_getElem (by have := HLN.out; omega)⟩
          obtain ⟨b, off, rfl, c0⟩ := HC.out j u hu
          have HB := h_ ((HA.out j u l hu hlj).later KB.out)
          obtain ⟨ua, uc, rfl⟩ := HB.out.short
          have c0 := cell_later KB.out c0
          have hsum := flt_le ls (j + 1)
          have hfl := flt_succ hlj
          have e1 : (flt ls (j + 1)).length = (flt ls j).length + l.length := by rw [hfl, List.length_append]
          have HF := h_ hfl
          have HS := h_ (show (flt ls j).length + l.length ≤ 140737488355328 by have := HB0.out (j + 1); omega)
          clear hu hlj hfl hsum e1
          have hlt' : (j : Int) < (ls.length : Int) := by omega
          go_wp2_with (at_builtin; refine wpList_append_ownB rfl (.tmp 31) (.tmp 32) 25 rfl w.heap.size 5 i0 Tryz.underlying25 HI.out.1 HI.out.2.1 HI.out.2.2.1 HI.out.2.2.2 _ _ _ (by first | rfl | simp [Act.eval, Act.put]) HO.out.1 _ l (by first | rfl | simp [Act.eval, Act.put]) HB.out HS.out KB.out.size ?_; intro v4 w4 own4 g4)
          have O4 := HO.out.grow HB.out.isB_ own4
          rw [← HF.out] at O4
          have b4 := HO.out.growB g4 (Nat.le_refl _) KB.out.size
          obtain ⟨va, vc, ve⟩ := ownr_form O4.1
          subst ve
          have O4 := h_ O4
          clear own4
          go_wp2
          go_roundw
          case rel => exact ⟨j + 1, va, vc, by omega, by go_num, rfl, O4, h_ (KB.out.trans b4)⟩
          case measure => simp [intOf]; omega
        · have hlt' : ¬ (j : Int) < (ls.length : Int) := by omega
          obtain rfl : j = ls.length := by omega
          go_wp2
          go_ret
          exact ⟨_, rfl, HO.out, KB.out⟩
theorem le_big (v : Value) (L : List A11) (w : World) (hL : ActAt w v L) (h : 100 < L.length) :
    Calls Tryz.prog 49 #[v] w fun e w' => e = .returned (.tuple #[.slice none 0 0, .int .i64 1]) ∧ Below w.heap.size w w' := by
  obtain ⟨s, cap, rfl, h2⟩ := hL.slice
  have g1 : (100 : Int) < (L.length : Int) := by omega
  clear hL
  go_enter Tryz.func49, Tryz.ntmps49
  go_wp2_with fail
  go_ret2
  exact ⟨rfl, Below.refl _ _⟩
theorem filter_lt {L : List A11} (h : L.all artO = false) : (L.filter artO).length < L.length := by
  rcases Nat.lt_or_ge (L.filter artO).length L.length with h1 | h1
  · exact h1
  · exfalso
    have e : (L.filter artO).length = L.length := Nat.le_antisymm (List.length_filter_le _ _) h1
    have := List.length_filter_eq_length_iff.1 e
    rw [List.all_eq_false] at h
    obtain ⟨o, ho, hn⟩ := h
    exact hn (this o ho)
theorem le_no (v : Value) (L : List A11) (w : World) (hL : ActAt w v L) (hF : AFit L) (h : L.length ≤ 100) (hr : L.all artO = false) :
    Calls Tryz.prog 49 #[v] w fun e w' => e = .returned (.tuple #[.slice none 0 0, .int .i64 1]) ∧ Below w.heap.size w w' := by
  have q := h_ (ltell_any v L w hL @hF (by omega))
  obtain ⟨s, cap, rfl, h2⟩ := hL.slice
  have g1 : ¬ (100 : Int) < (L.length : Int) := by omega
  have hf := filter_lt hr
  clear hL hF
  go_enter Tryz.func49, Tryz.ntmps49
  go_wp2_with (go_at_call 83; refine q.out.mono ?_; rintro e w1 ⟨r, vs, rfl, h1, hA, b1⟩; obtain ⟨ra, rc, re⟩ := ownr_form h1; subst re; have g2 : ((vs.length : Nat) : Int) < (L.length : Int) := (by have := hA.1; omega); clear h1 hA)
  go_ret2
  exact ⟨rfl, b1⟩
theorem le_yes (v : Value) (L : List A11) (w : World) (hL : ActAt w v L) (hF : AFit L) (h : L.length ≤ 100) (hr : L.all artO = true) :
    Calls Tryz.prog 49 #[v] w fun e w' => ∃ r, e = .returned (.tuple #[r, .int .i64 0]) ∧ OwnB w' w.heap.size r (encA L) ∧ Below w.heap.size w w' := by
  have q := h_ (ltell_any v L w hL @hF (by omega))
  obtain ⟨s, cap, rfl, h2⟩ := hL.slice
  have g1 : ¬ (100 : Int) < (L.length : Int) := by omega
  have hf : L.filter artO = L := List.filter_eq_self.2 (List.all_eq_true.1 hr)
  rw [hf] at q
  have hlen := encA_len L @hF hr
  have hfl : flt (L.map aencO) (L.map aencO).length = encA L := by rw [flt_all]; simp [encA, List.flatMap]
  have HFL := h_ hfl
  have HT : (flt (L.map aencO) (L.map aencO).length).length ≤ 1000000 := by rw [hfl]; omega
  clear hL hF hf hr hfl hlen
  go_enter Tryz.func49, Tryz.ntmps49
  go_wp2_with (first | (go_at_call 83; refine q.out.mono ?_; rintro e w1 ⟨r, vs, rfl, h1, hA, b1⟩; obtain ⟨ra, rc, re⟩ := ownr_form h1; subst re; have g2 : ¬ (((vs.length : Nat) : Int) < (L.length : Int)) := (by have := hA.1; omega); have qc := h_ (concat_any _ vs (L.map aencO) w1 (Cells.ofOwn h1) (fun i u l hu hl => by rw [List.getElem?_map] at hl; obtain ⟨o, ho, rfl⟩ := Option.map_eq_some_iff.1 hl; exact (hA.2 i u o hu ho).bytes) (by rw [List.length_map]; exact hA.1) HT); clear h1 hA) | (go_at_call 86; refine qc.out.mono ?_; rintro e w2 ⟨r2, rfl, h3, b2⟩; rw [HFL.out] at h3; have h3 := h_ h3))
  go_ret2
  exact ⟨r2, rfl, h3.out.mono b1.size, b1.trans (b2.mono b1.size)⟩
theorem aeqf_any (v u : Value) (L K : List A11) (w : World) (hL : ActAt w v L) (hK : ActAt w u K) :
    Calls Tryz.prog 113 #[v, u, (.func (.func 114) #[] #[])] w fun e w' => e = .returned (.bool (sameL L K)) ∧ Below w.heap.size w w' := by
  obtain ⟨s, cap, rfl, h1, h2, h3, h4⟩ := hL
  obtain ⟨s2, cap2, rfl, k1, k2, k3, k4⟩ := hK
  have HL := h_ h4
  have HK := h_ k4
  have hm : L.length ≤ 9223372036854775807 := by unfold maxLen at h2; omega
  have hm2 : K.length ≤ 9223372036854775807 := by unfold maxLen at k2; omega
  clear h1 h2 h3 h4 k1 k2 k3 k4
  by_cases hlen : L.length = K.length
  · have HE := h_ hlen
    rw [← hlen]
    have g0 : ((L.length : Int) != (L.length : Int)) = false := by simp
    clear hlen hm2
    obtain ⟨R, hR⟩ : ∃ R, sameL L K = R := ⟨_, rfl⟩
    rw [hR]
    have HR := h_ hR
    clear hR
    go_enter Tryz.func113, Tryz.ntmps113
    go_wp2
    go_loopw [17] (fun i wr => ∃ k : Nat, k ≤ L.length ∧ i = .int .i64 k ∧ Hid (L.take k = K.take k) ∧ Below w.heap.size w wr) (fun i _ => L.length - (intOf i).toNat)
    case atStart => exact ⟨0, Nat.zero_le _, rfl, h_ rfl, Below.refl _ _⟩
    case round =>
      obtain ⟨j, hk, rfl, HT, hb⟩ := hrel
      by_cases hlt : j < L.length
      · have hlt2 : j < K.length := by have := HE.out; omega
        obtain ⟨⟨k1, p1, x1, q1, y1, f1, m1, a1, b1, c1, d1⟩, hz1⟩ : ∃ z, L[j]? = some z := ⟨_, List.getElem?_eq_getElem hlt⟩
        obtain ⟨bq, off, rfl, X0, X1, X2, X3, X4, X5, X6, X7, X8, X9, X10⟩ := act11 HL.out hz1
        have X0 := cell_later hb X0
        have X1 := cell_later hb X1
        have X2 := cell_later hb X2
        have X3 := cell_later hb X3
        have X4 := cell_later hb X4
        have X5 := cell_later hb X5
        have X6 := cell_later hb X6
        have X7 := cell_later hb X7
        have X8 := cell_later hb X8
        have X9 := cell_later hb X9
        have X10 := cell_later hb X10
        obtain ⟨⟨k2, p2, x2, q2, y2, f2, m2, a2, b2, c2, d2⟩, hz2⟩ : ∃ z, K[j]? = some z := ⟨_, List.getElem?_eq_getElem hlt2⟩
        obtain ⟨q2', off2, rfl, Y0, Y1, Y2, Y3, Y4, Y5, Y6, Y7, Y8, Y9, Y10⟩ := act11 HK.out hz2
        have Y0 := cell_later hb Y0
        have Y1 := cell_later hb Y1
        have Y2 := cell_later hb Y2
        have Y3 := cell_later hb Y3
        have Y4 := cell_later hb Y4
        have Y5 := cell_later hb Y5
        have Y6 := cell_later hb Y6
        have Y7 := cell_later hb Y7
        have Y8 := cell_later hb Y8
        have Y9 := cell_later hb Y9
        have Y10 := cell_later hb Y10
        have Y0 := cell_later (below1 wr (.cells #[.int .i64 k1, .int .i64 p1, .int .i64 x1, .int .i64 q1, .int .i64 y1, .int .i64 f1, .bool m1, .int .u64 (a1 : Int), .int .u64 (b1 : Int), .int .u64 (c1 : Int), .int .u64 (d1 : Int)] 61)) Y0
        have Y1 := cell_later (below1 wr (.cells #[.int .i64 k1, .int .i64 p1, .int .i64 x1, .int .i64 q1, .int .i64 y1, .int .i64 f1, .bool m1, .int .u64 (a1 : Int), .int .u64 (b1 : Int), .int .u64 (c1 : Int), .int .u64 (d1 : Int)] 61)) Y1
        have Y2 := cell_later (below1 wr (.cells #[.int .i64 k1, .int .i64 p1, .int .i64 x1, .int .i64 q1, .int .i64 y1, .int .i64 f1, .bool m1, .int .u64 (a1 : Int), .int .u64 (b1 : Int), .int .u64 (c1 : Int), .int .u64 (d1 : Int)] 61)) Y2
        have Y3 := cell_later (below1 wr (.cells #[.int .i64 k1, .int .i64 p1, .int .i64 x1, .int .i64 q1, .int .i64 y1, .int .i64 f1, .bool m1, .int .u64 (a1 : Int), .int .u64 (b1 : Int), .int .u64 (c1 : Int), .int .u64 (d1 : Int)] 61)) Y3
        have Y4 := cell_later (below1 wr (.cells #[.int .i64 k1, .int .i64 p1, .int .i64 x1, .int .i64 q1, .int .i64 y1, .int .i64 f1, .bool m1, .int .u64 (a1 : Int), .int .u64 (b1 : Int), .int .u64 (c1 : Int), .int .u64 (d1 : Int)] 61)) Y4
        have Y5 := cell_later (below1 wr (.cells #[.int .i64 k1, .int .i64 p1, .int .i64 x1, .int .i64 q1, .int .i64 y1, .int .i64 f1, .bool m1, .int .u64 (a1 : Int), .int .u64 (b1 : Int), .int .u64 (c1 : Int), .int .u64 (d1 : Int)] 61)) Y5
        have Y6 := cell_later (below1 wr (.cells #[.int .i64 k1, .int .i64 p1, .int .i64 x1, .int .i64 q1, .int .i64 y1, .int .i64 f1, .bool m1, .int .u64 (a1 : Int), .int .u64 (b1 : Int), .int .u64 (c1 : Int), .int .u64 (d1 : Int)] 61)) Y6
        have Y7 := cell_later (below1 wr (.cells #[.int .i64 k1, .int .i64 p1, .int .i64 x1, .int .i64 q1, .int .i64 y1, .int .i64 f1, .bool m1, .int .u64 (a1 : Int), .int .u64 (b1 : Int), .int .u64 (c1 : Int), .int .u64 (d1 : Int)] 61)) Y7
        have Y8 := cell_later (below1 wr (.cells #[.int .i64 k1, .int .i64 p1, .int .i64 x1, .int .i64 q1, .int .i64 y1, .int .i64 f1, .bool m1, .int .u64 (a1 : Int), .int .u64 (b1 : Int), .int .u64 (c1 : Int), .int .u64 (d1 : Int)] 61)) Y8
        have Y9 := cell_later (below1 wr (.cells #[.int .i64 k1, .int .i64 p1, .int .i64 x1, .int .i64 q1, .int .i64 y1, .int .i64 f1, .bool m1, .int .u64 (a1 : Int), .int .u64 (b1 : Int), .int .u64 (c1 : Int), .int .u64 (d1 : Int)] 61)) Y9
        have Y10 := cell_later (below1 wr (.cells #[.int .i64 k1, .int .i64 p1, .int .i64 x1, .int .i64 q1, .int .i64 y1, .int .i64 f1, .bool m1, .int .u64 (a1 : Int), .int .u64 (b1 : Int), .int .u64 (c1 : Int), .int .u64 (d1 : Int)] 61)) Y10
        have HX := h_ hz1
        have HY := h_ hz2
        clear hz1 hz2 hlt2
        have hlt' : (j : Int) < (L.length : Int) := by omega
        have BB := h_ (below2 wr (.cells #[.int .i64 k1, .int .i64 p1, .int .i64 x1, .int .i64 q1, .int .i64 y1, .int .i64 f1, .bool m1, .int .u64 (a1 : Int), .int .u64 (b1 : Int), .int .u64 (c1 : Int), .int .u64 (d1 : Int)] 61) (.cells #[.int .i64 k2, .int .i64 p2, .int .i64 x2, .int .i64 q2, .int .i64 y2, .int .i64 f2, .bool m2, .int .u64 (a2 : Int), .int .u64 (b2 : Int), .int .u64 (c2 : Int), .int .u64 (d2 : Int)] 61))
        have qs := fun w => asame_any k1 p1 x1 q1 y1 f1 m1 a1 b1 c1 d1 k2 p2 x2 q2 y2 f2 m2 a2 b2 c2 d2 w
        have qs := h_ qs
        unfold av at qs
        cases hd : sameB k1 p1 x1 q1 y1 f1 m1 a1 b1 c1 d1 k2 p2 x2 q2 y2 f2 m2 a2 b2 c2 d2
        · rw [hd] at qs
          have HD := h_ (sameB_false _ _ _ _ _ _ _ _ _ _ _ _ _ _ _ _ _ _ _ _ _ _ hd)
          clear hd
          go_wp2_with (go_at_call 114; refine (qs.out _).mono ?_; rintro e w5 ⟨rfl, b5⟩)
          go_ret
          refine ⟨?_, hb.trans ((BB.out.trans (b5.mono BB.out.size)).mono hb.size)⟩
          rw [← HR.out, sameL_false (take_diffA HX.out HY.out HD.out)]
          rfl
        · rw [hd] at qs
          have HD := h_ (sameB_true _ _ _ _ _ _ _ _ _ _ _ _ _ _ _ _ _ _ _ _ _ _ hd)
          clear hd
          go_wp2_with (go_at_call 114; refine (qs.out _).mono ?_; rintro e w5 ⟨rfl, b5⟩)
          go_roundw
          case rel => exact ⟨j + 1, by omega, by go_num, h_ (take_sameA HT.out HX.out HY.out HD.out), hb.trans ((BB.out.trans (b5.mono BB.out.size)).mono hb.size)⟩
          case measure => simp [intOf]; omega
      · have hlt' : ¬ (j : Int) < (L.length : Int) := by omega
        go_wp2
        go_ret
        refine ⟨?_, hb⟩
        have e := HT.out
        rw [List.take_of_length_le (by omega), List.take_of_length_le (by have := HE.out; omega)] at e
        rw [← HR.out, sameL_true e]
        rfl
  · have g0 : ((L.length : Int) != (K.length : Int)) = true := by simp; omega
    have g1 : ((L.length : Int) == (K.length : Int)) = false := by simp; omega
    have e : ¬ L = K := fun h => hlen (by rw [h])
    rw [sameL_false e]
    go_enter Tryz.func113, Tryz.ntmps113
    go_wp2
    go_ret
    exact ⟨rfl, Below.refl _ _⟩
theorem lsame_any (v u : Value) (L K : List A11) (w : World) (hL : ActAt w v L) (hK : ActAt w u K) :
    Calls Tryz.prog 77 #[v, u] w fun e w' => e = .returned (.bool (sameL L K)) ∧ Below w.heap.size w w' := by
  have q := h_ (aeqf_any v u L K w hL hK)
  generalize sameL L K = z at *
  clear hL hK
  go_enter Tryz.func77, Tryz.ntmps77
  go_wp2_with (go_at_call 113; refine q.out.mono ?_; rintro e w1 ⟨rfl, b1⟩)
  go_ret
  exact ⟨rfl, b1⟩
end
end Go.Proofs.YthhijfphfcmniaaGreat
