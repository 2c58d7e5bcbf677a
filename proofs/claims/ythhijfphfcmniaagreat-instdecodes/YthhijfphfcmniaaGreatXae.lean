import Derived.Test.YthhijfphfcmniaaGreatProg
import Derived.WalkKit
import Derived.Laws.BitsLemmas
import Derived.WalkSpells
import Derived.WalkLawsBesides
import Derived.Below
import Derived.Handy
import Derived.Laws.AppendOwn
import Derived.Laws.AppendOwnNone
import Derived.Laws.OwnMore
import Derived.Laws.BitsAllLaws
import Derived.BigQuiet
import Derived.BigRegion
import Derived.Deep.QuietTactic
import Derived.Deep.RegionHeld3
import Derived.Deep.RegionLaw
import Derived.Deep.RegionLawGrows
import Derived.Laws.CopyOwn
import Derived.Laws.Rows
import Derived.Laws.StructEq
import Derived.OpenShut
import Derived.ProofKit
import Derived.RegionTactic
import Derived.WalkSmall
set_option maxRecDepth 100000
set_option maxHeartbeats 8000000
set_option linter.unusedVariables false
set_option linter.unusedSimpArgs false
namespace Go.Proofs.YthhijfphfcmniaaGreat
theorem sIb {α : Type} {l : List α} {i : Nat} {a : α} : l.toArray.setIfInBounds i a = (l.set i a).toArray := by simp
theorem sCz {α : Type} {x : α} {xs : List α} {a : α} : (x :: xs).set 0 a = a :: xs := rfl
theorem sCs {α : Type} {x : α} {xs : List α} {i : Nat} {a : α} : (x :: xs).set (i + 1) a = x :: xs.set i a := rfl
section
open Go Go.RowKit
open Go.RowKit
theorem wraps_i64 (n : Int) (h₀ : 0 ≤ n) (h₁ : n < 2 ^ 63) : IntKind.i64.wrap n = n := by rw [IntKind.wrap_i64]; omega
theorem or8 (x y : Int) (hx₀ : 0 ≤ x) (hx : x % 256 = 0) (hx₁ : x < 9223372036854775808) (h₀ : 0 ≤ y) (h₁ : y ≤ 255) : bits .or .i64 x y = x + y :=
  bits_join .i64 63 (by decide) wraps_i64 8 x y hx₀ hx hx₁ h₀ (by omega) (by omega)
theorem w64 (n : Int) (h₀ : 0 ≤ n) (h₁ : n < 9223372036854775808) : wrap64 n = n := by
  have := wraps_i64 n h₀ h₁
  simpa [wrap64, IntKind.wrap_i64] using this
theorem step8 (x y : Int) (h0 : 0 ≤ x) (h1 : x < 18014398509481984) (h₀ : 0 ≤ y) (h₁ : y ≤ 255) : bits .or .i64 (wrap64 (x * 256)) y = x * 256 + y := by
  rw [w64 (x * 256) (by omega) (by omega), or8 (x * 256) y (by omega) (by omega) (by omega) h₀ h₁]
theorem read4 (a b c d : Int) (ha : 0 ≤ a ∧ a ≤ 255) (hb : 0 ≤ b ∧ b ≤ 255) (hc : 0 ≤ c ∧ c ≤ 255) (hd : 0 ≤ d ∧ d ≤ 255) :
    bits .or .i64 (wrap64 (bits .or .i64 (wrap64 (bits .or .i64 (wrap64 (bits .or .i64 0 a * 256)) b * 256)) c * 256)) d = ((a * 256 + b) * 256 + c) * 256 + d := by
  have e0 : bits .or .i64 0 a = a := by rw [or8 0 a (by omega) (by omega) (by omega) (by omega) (by omega)]; omega
  rw [e0, step8 a b (by omega) (by omega) (by omega) (by omega), step8 _ c (by omega) (by omega) (by omega) (by omega), step8 _ d (by omega) (by omega) (by omega) (by omega)]
theorem ret_int {k : IntKind} {a b : Int} (h : a = b) : Ending.returned (.int k a) = .returned (.int k b) := by rw [h]
theorem h_ {p : Prop} (h : p) : Hid p := h
def u8s (l : List Int) : List Value := l.map (Value.int .u8)
theorem u8s_length (l : List Int) : (u8s l).length = l.length := by simp [u8s]
theorem u8s_one (l : List Int) : ∀ u ∈ u8s l, u.oneCell' = true := by
  intro u hu; obtain ⟨z, _, rfl⟩ := List.mem_map.1 hu; rfl
theorem u8s_append (l m : List Int) : u8s (l ++ m) = u8s l ++ u8s m := by simp [u8s]
def isB (l : List Int) : Prop := ∀ z ∈ l, 0 ≤ z ∧ z ≤ 255
theorem isB.app {l m : List Int} (h : isB l) (k : isB m) : isB (l ++ m) := by
  intro z hz; rcases List.mem_append.1 hz with hz | hz
  · exact h z hz
  · exact k z hz
def Bytes (w : World) (v : Value) (l : List Int) : Prop :=
  ∃ a cap, v = .slice a l.length cap ∧ l.length ≤ cap ∧ cap ≤ maxLen ∧ isB l ∧ (a = none → cap = 0) ∧
    ∀ ad, a = some ad → ∀ j z, l[j]? = some z → w.cell? (ad.add j) = some (.int .u8 z)
theorem Bytes.later {w w' : World} {v : Value} {l : List Int} (h : Bytes w v l) (hb : Below w.heap.size w w') : Bytes w' v l := by
  obtain ⟨a, cap, rfl, h1, h2, h3, h4, h5⟩ := h
  exact ⟨a, cap, rfl, h1, h2, h3, h4, fun ad e j z hz => cell_later hb (h5 ad e j z hz)⟩
theorem Bytes.ofOwn {w : World} {base : Nat} {e : TypeId} {v : Value} {l : List Int} (h : w.ownsRow base e 1 v l.length (u8s l)) (hl : isB l) : Bytes w v l := by
  rcases h.2 with ⟨rfl, h0⟩ | ⟨g, cap, cur, rfl, hb, hg, h1, h2, h3, h4⟩
  · have : l = [] := List.eq_nil_of_length_eq_zero h0
    subst this
    exact ⟨none, 0, rfl, Nat.le_refl _, Nat.zero_le _, hl, fun _ => rfl, fun _ e => by cases e⟩
  · refine ⟨some ⟨g, 0, none⟩, cap, rfl, h1, h2, hl, (fun e => by cases e), fun ad e j z hz => ?_⟩
    cases e
    exact h.cells rfl j _ (by simp [u8s, hz])
theorem Bytes.nil (w : World) : Bytes w (.slice none 0 0) [] :=
  ⟨none, 0, rfl, Nat.le_refl _, Nat.zero_le _, (fun _ h => by cases h), fun _ => rfl, fun _ e => by cases e⟩
theorem wpList_append_ownB {P : Program} {w : World} {ops : Array Oper} {rest : List Oper} {o : Oper} {a : Act} {Q : Exit → Act → World → Prop} (hgd : o.guard = none) (s x : Operand) (t : TypeId)
    (ho : o.op = .call { callee := .builtin .append, args := #[s, x], argTypes := #[t, t] })
    (base : Nat) (e : TypeId) (i : TypeInfo) (ht : P.underlying t = some (.slice e)) (hi : P.info? e = some i) (hz : i.zero = some (.int .u8 0))
    (hsize : i.size = 1) (hby : i.bytes = 1)
    (v : Value) (n : Nat) (xs : List Value) (hs : a.eval s = v) (hown : w.ownsRow base e 1 v n xs)
    (u : Value) (l : List Int) (hx : a.eval x = u) (hB : Bytes w u l)
    (h63 : n + l.length ≤ 140737488355328) (hbase : base ≤ w.heap.size)
    (h : ∀ v' w', w'.ownsRow base e 1 v' (n + l.length) (xs ++ u8s l) → w.grownBy w' v.ownBlock → wpList P ops Q rest (a.put o.dst v') w') : wpList P ops Q (o :: rest) a w := by
  obtain ⟨ad, cap, rfl, h1, h2, h3, h4, h5⟩ := hB
  cases ad with
  | none =>
    have hc := h4 rfl
    subst hc
    have hl : l = [] := List.eq_nil_of_length_eq_zero (by omega)
    subst hl
    refine wpList_append_own_none hgd s x t ho base e i 1 ht hi v n xs hs hown hx ?_
    refine h v w ?_ ⟨rfl, rfl, rfl, Nat.le_refl _, fun _ _ _ => rfl⟩
    simpa [u8s] using hown
  | some ad =>
    refine wpList_append_own w hgd s x t ho base e i (.int .u8 0) 1 1 ht hi hz hsize hby rfl (by decide) v n xs hs hown ad l.length cap (u8s l) hx (by simp [u8s]) ?_ (u8s_one l) (by unfold maxLen; omega) (by omega) hbase (fun v' w' a1 a2 _ => h v' w' a1 a2)
    intro j u hu
    unfold u8s at hu
    rw [List.getElem?_map] at hu
    cases hj : l[j]? with
    | none => rw [hj] at hu; cases hu
    | some z => rw [hj] at hu; cases hu; exact h5 ad rfl j z hj
theorem below_grown {w w' : World} {row : Option Nat} (hg : w.grownBy w' row) (B : Nat) (hB : B ≤ w.heap.size) (hr : ∀ k, row = some k → B ≤ k) : Below B w w' :=
  (Below.refl B w).grown hg hB hr
def nb (B : Nat) : Nat → Nat → Nat
  | 0, _ => 0
  | n + 1, x => (x % B + x / B % B) + B * B * nb B n (x / (B * B))
def szB (s : Int) : Bool := s == 1 || s == 2 || s == 4
theorem isSize_any (s : Int) (w : World) :
    Calls Tryz.prog 119 #[.int .i64 s] w fun e w' => e = .returned (.bool (szB s)) ∧ w = w' := by
  by_cases h1 : s = 1
  · subst h1
    go_enter Tryz.func119, Tryz.ntmps119
    go_wp2
    go_ret
    exact ⟨rfl, rfl⟩
  · have h1' : (s == 1) = false := by simpa using h1
    by_cases h2 : s = 2
    · subst h2
      go_enter Tryz.func119, Tryz.ntmps119
      go_wp2
      go_ret
      exact ⟨rfl, rfl⟩
    · have h2' : (s == 2) = false := by simpa using h2
      by_cases h4 : s = 4
      · subst h4
        go_enter Tryz.func119, Tryz.ntmps119
        go_wp2
        go_ret
        exact ⟨rfl, rfl⟩
      · have h4' : (s == 4) = false := by simpa using h4
        go_enter Tryz.func119, Tryz.ntmps119
        go_wp2
        go_ret
        exact ⟨by simp [szB, h1', h2', h4'], rfl⟩
open Go.RowKit
theorem read_any (a b c d : Int) (w : World) (ha : 0 ≤ a ∧ a ≤ 255) (hb : 0 ≤ b ∧ b ≤ 255) (hc : 0 ≤ c ∧ c ≤ 255) (hd : 0 ≤ d ∧ d ≤ 255) :
    Calls Tryz.prog 120 #[.agg #[.int .u8 a, .int .u8 b, .int .u8 c, .int .u8 d]] w fun e w' => e = .returned (.int .i64 (((a * 256 + b) * 256 + c) * 256 + d)) ∧ Below w.heap.size w w' := by
  go_enter Tryz.func120, Tryz.ntmps120
  go_wp2
  go_rounds 5
  go_ret
  exact ⟨ret_int (read4 a b c d ha hb hc hd), by go_grown⟩
end
end Go.Proofs.YthhijfphfcmniaaGreat
namespace Go.Proofs.YthhijfphfcmniaaGreat
section
open Go Go.RowKit
open Go.RowKit
theorem heap_new (w : World) (o : Obj) : (w.alloc o).drew.heap[w.heap.size]? = some o := by
  show (w.heap.push o)[w.heap.size]? = some o
  simp
theorem cell_new (w : World) (o : Obj) (b k : Nat) (v : Value) (h : w.cell? ⟨b, k, none⟩ = some v) : (w.alloc o).drew.cell? ⟨b, k, none⟩ = some v := by
  exact cell_later (wx := (w.alloc o).drew) (by go_grown) h
theorem cells4 {w : World} {g : Nat} {a b c d : Value} {t : TypeId} (h : w.heap[g]? = some (.cells #[a, b, c, d] t)) :
    w.cell? ⟨g, 0, none⟩ = some a ∧ w.cell? ⟨g, 1, none⟩ = some b ∧ w.cell? ⟨g, 2, none⟩ = some c ∧ w.cell? ⟨g, 3, none⟩ = some d := by
  simp [World.cell?, h]
theorem one_u8 (z : Int) : (Value.int .u8 z).oneCell' = true := rfl
theorem ret_int2 {k l : IntKind} {a b c : Int} (h : a = b) : Ending.returned (.tuple #[.int k a, .int l c]) = .returned (.tuple #[.int k b, .int l c]) := by rw [h]
theorem src1 (b off k : Nat) (z0 : Int) (w : World) (o : Obj) (hc0 : w.cell? ⟨b, off + k, none⟩ = some (.int .u8 z0)) :
    ∀ (j : Nat) (v : Value), ([.int .u8 z0] : List Value)[j]? = some v → (w.alloc o).drew.cell? ((⟨b, off + k, none⟩ : Addr).add j) = some v := fun j v h =>
  match j, v, h with
    | 0, v, h => by cases h; exact cell_new _ _ _ _ _ hc0
    | j + 1, v, h => by simp at h
theorem get_ok1 (b off len cap k : Nat) (z0 : Int) (w : World) (hz0 : 0 ≤ z0 ∧ z0 ≤ 255) (hk : k + 1 ≤ len) (hl : len ≤ cap) (hm : cap ≤ maxLen) (hc0 : w.cell? ⟨b, off + k, none⟩ = some (.int .u8 z0)) :
    Calls Tryz.prog 89 #[.slice (some ⟨b, off, none⟩) len cap, .int .i64 k, .int .i64 1] w fun e w' => e = .returned (.tuple #[.int .i64 z0, .int .i64 0]) ∧ Below w.heap.size w w' := by
  unfold maxLen at hm
  have S : Hid _ := (src1 b off k z0 w (.cells #[.int .u8 0, .int .u8 0, .int .u8 0, .int .u8 0] 128) hc0)
  clear hc0
  have h1 : ¬ ((k : Int) < 0) := by omega
  have h2 : ¬ ((len : Int) - 1 < (k : Int)) := by omega
  go_enter Tryz.func89, Tryz.ntmps89
  go_wp2_with (go_at_call 119; refine (isSize_any _ _).mono ?_; rintro e w' ⟨rfl, rfl⟩)
  clear h1 h2
  have e3 : IntKind.i64.wrap 3 = 3 := by decide
  have e4 : IntKind.i64.wrap ((k : Int) + 1) = (k : Int) + 1 := by rw [IntKind.wrap_i64]; omega
  have f1 : (0 : Int) ≤ (k : Int) + 1 := by omega
  have f2 : (k : Int) + 1 ≤ (cap : Int) := by omega
  have f3 : ¬ cap = k := by omega
  have f4 : (k : Int) ≤ (k : Int) + 1 := by omega
  have f5 : ((k : Int) + 1).toNat - k = 1 := by omega
  go_region_law (refine step_copy_splice rfl (.tmp 24) (.tmp 30) 25 25 rfl 5 Tryz.underlying25 (by kernel_rfl) (some ⟨w.heap.size, 3, none⟩) (some ⟨b, off + k, none⟩) 1 1 1 (cap - k) (by simp [Act.eval, Act.put]) (by simp [Act.eval, Act.put]) w.heap.size 3 [.int .u8 0, .int .u8 0, .int .u8 0, .int .u8 0] 128 (heap_new w _) [.int .u8 z0] (by simp) (fun _ => ⟨rfl, _, rfl, S.out⟩) (by simp) (by simp [one_u8]) w.heap.size w (by go_grown) (Nat.le_refl _) ?_; intro w2 H2 hB)
  have H3 : w2.heap[w.heap.size]? = some (.cells #[.int .u8 0, .int .u8 0, .int .u8 0, .int .u8 z0] 128) := by have := H2.out; simpa [splice] using this
  obtain ⟨c0, c1, c2, c3⟩ := cells4 H3
  clear H2 H3 f1 f2 f3 f4 f5 e3 e4 S
  go_wp2_with (go_at_call 120; refine (read_any 0 0 0 z0 _ (by omega) (by omega) (by omega) hz0).mono ?_; rintro e w3 ⟨rfl, hb3⟩)
  go_ret2
  exact ⟨ret_int2 (by omega), hB.trans (hb3.mono hB.size)⟩
theorem src2 (b off k : Nat) (z0 z1 : Int) (w : World) (o : Obj) (hc0 : w.cell? ⟨b, off + k, none⟩ = some (.int .u8 z0)) (hc1 : w.cell? ⟨b, off + k + 1, none⟩ = some (.int .u8 z1)) :
    ∀ (j : Nat) (v : Value), ([.int .u8 z0, .int .u8 z1] : List Value)[j]? = some v → (w.alloc o).drew.cell? ((⟨b, off + k, none⟩ : Addr).add j) = some v := fun j v h =>
  match j, v, h with
    | 0, v, h => by cases h; exact cell_new _ _ _ _ _ hc0
    | 1, v, h => by cases h; exact cell_new _ _ _ _ _ hc1
    | j + 2, v, h => by simp at h
theorem get_ok2 (b off len cap k : Nat) (z0 z1 : Int) (w : World) (hz0 : 0 ≤ z0 ∧ z0 ≤ 255) (hz1 : 0 ≤ z1 ∧ z1 ≤ 255) (hk : k + 2 ≤ len) (hl : len ≤ cap) (hm : cap ≤ maxLen) (hc0 : w.cell? ⟨b, off + k, none⟩ = some (.int .u8 z0)) (hc1 : w.cell? ⟨b, off + k + 1, none⟩ = some (.int .u8 z1)) :
    Calls Tryz.prog 89 #[.slice (some ⟨b, off, none⟩) len cap, .int .i64 k, .int .i64 2] w fun e w' => e = .returned (.tuple #[.int .i64 (z0 * 256 + z1), .int .i64 0]) ∧ Below w.heap.size w w' := by
  unfold maxLen at hm
  have S : Hid _ := (src2 b off k z0 z1 w (.cells #[.int .u8 0, .int .u8 0, .int .u8 0, .int .u8 0] 128) hc0 hc1)
  clear hc0 hc1
  have h1 : ¬ ((k : Int) < 0) := by omega
  have h2 : ¬ ((len : Int) - 2 < (k : Int)) := by omega
  go_enter Tryz.func89, Tryz.ntmps89
  go_wp2_with (go_at_call 119; refine (isSize_any _ _).mono ?_; rintro e w' ⟨rfl, rfl⟩)
  clear h1 h2
  have e3 : IntKind.i64.wrap 2 = 2 := by decide
  have e4 : IntKind.i64.wrap ((k : Int) + 2) = (k : Int) + 2 := by rw [IntKind.wrap_i64]; omega
  have f1 : (0 : Int) ≤ (k : Int) + 2 := by omega
  have f2 : (k : Int) + 2 ≤ (cap : Int) := by omega
  have f3 : ¬ cap = k := by omega
  have f4 : (k : Int) ≤ (k : Int) + 2 := by omega
  have f5 : ((k : Int) + 2).toNat - k = 2 := by omega
  go_region_law (refine step_copy_splice rfl (.tmp 24) (.tmp 30) 25 25 rfl 5 Tryz.underlying25 (by kernel_rfl) (some ⟨w.heap.size, 2, none⟩) (some ⟨b, off + k, none⟩) 2 2 2 (cap - k) (by simp [Act.eval, Act.put]) (by simp [Act.eval, Act.put]) w.heap.size 2 [.int .u8 0, .int .u8 0, .int .u8 0, .int .u8 0] 128 (heap_new w _) [.int .u8 z0, .int .u8 z1] (by simp) (fun _ => ⟨rfl, _, rfl, S.out⟩) (by simp) (by simp [one_u8]) w.heap.size w (by go_grown) (Nat.le_refl _) ?_; intro w2 H2 hB)
  have H3 : w2.heap[w.heap.size]? = some (.cells #[.int .u8 0, .int .u8 0, .int .u8 z0, .int .u8 z1] 128) := by have := H2.out; simpa [splice] using this
  obtain ⟨c0, c1, c2, c3⟩ := cells4 H3
  clear H2 H3 f1 f2 f3 f4 f5 e3 e4 S
  go_wp2_with (go_at_call 120; refine (read_any 0 0 z0 z1 _ (by omega) (by omega) hz0 hz1).mono ?_; rintro e w3 ⟨rfl, hb3⟩)
  go_ret2
  exact ⟨ret_int2 (by omega), hB.trans (hb3.mono hB.size)⟩
theorem src4 (b off k : Nat) (z0 z1 z2 z3 : Int) (w : World) (o : Obj) (hc0 : w.cell? ⟨b, off + k, none⟩ = some (.int .u8 z0)) (hc1 : w.cell? ⟨b, off + k + 1, none⟩ = some (.int .u8 z1)) (hc2 : w.cell? ⟨b, off + k + 2, none⟩ = some (.int .u8 z2)) (hc3 : w.cell? ⟨b, off + k + 3, none⟩ = some (.int .u8 z3)) :
    ∀ (j : Nat) (v : Value), ([.int .u8 z0, .int .u8 z1, .int .u8 z2, .int .u8 z3] : List Value)[j]? = some v → (w.alloc o).drew.cell? ((⟨b, off + k, none⟩ : Addr).add j) = some v := fun j v h =>
  match j, v, h with
    | 0, v, h => by cases h; exact cell_new _ _ _ _ _ hc0
    | 1, v, h => by cases h; exact cell_new _ _ _ _ _ hc1
    | 2, v, h => by cases h; exact cell_new _ _ _ _ _ hc2
    | 3, v, h => by cases h; exact cell_new _ _ _ _ _ hc3
    | j + 4, v, h => by simp at h
theorem get_ok4 (b off len cap k : Nat) (z0 z1 z2 z3 : Int) (w : World) (hz0 : 0 ≤ z0 ∧ z0 ≤ 255) (hz1 : 0 ≤ z1 ∧ z1 ≤ 255) (hz2 : 0 ≤ z2 ∧ z2 ≤ 255) (hz3 : 0 ≤ z3 ∧ z3 ≤ 255) (hk : k + 4 ≤ len) (hl : len ≤ cap) (hm : cap ≤ maxLen) (hc0 : w.cell? ⟨b, off + k, none⟩ = some (.int .u8 z0)) (hc1 : w.cell? ⟨b, off + k + 1, none⟩ = some (.int .u8 z1)) (hc2 : w.cell? ⟨b, off + k + 2, none⟩ = some (.int .u8 z2)) (hc3 : w.cell? ⟨b, off + k + 3, none⟩ = some (.int .u8 z3)) :
    Calls Tryz.prog 89 #[.slice (some ⟨b, off, none⟩) len cap, .int .i64 k, .int .i64 4] w fun e w' => e = .returned (.tuple #[.int .i64 (((z0 * 256 + z1) * 256 + z2) * 256 + z3), .int .i64 0]) ∧ Below w.heap.size w w' := by
  unfold maxLen at hm
  have S : Hid _ := (src4 b off k z0 z1 z2 z3 w (.cells #[.int .u8 0, .int .u8 0, .int .u8 0, .int .u8 0] 128) hc0 hc1 hc2 hc3)
  clear hc0 hc1 hc2 hc3
  have h1 : ¬ ((k : Int) < 0) := by omega
  have h2 : ¬ ((len : Int) - 4 < (k : Int)) := by omega
  go_enter Tryz.func89, Tryz.ntmps89
  go_wp2_with (go_at_call 119; refine (isSize_any _ _).mono ?_; rintro e w' ⟨rfl, rfl⟩)
  clear h1 h2
  have e3 : IntKind.i64.wrap 0 = 0 := by decide
  have e4 : IntKind.i64.wrap ((k : Int) + 4) = (k : Int) + 4 := by rw [IntKind.wrap_i64]; omega
  have f1 : (0 : Int) ≤ (k : Int) + 4 := by omega
  have f2 : (k : Int) + 4 ≤ (cap : Int) := by omega
  have f3 : ¬ cap = k := by omega
  have f4 : (k : Int) ≤ (k : Int) + 4 := by omega
  have f5 : ((k : Int) + 4).toNat - k = 4 := by omega
  go_region_law (refine step_copy_splice rfl (.tmp 24) (.tmp 30) 25 25 rfl 5 Tryz.underlying25 (by kernel_rfl) (some ⟨w.heap.size, 0, none⟩) (some ⟨b, off + k, none⟩) 4 4 4 (cap - k) (by simp [Act.eval, Act.put]) (by simp [Act.eval, Act.put]) w.heap.size 0 [.int .u8 0, .int .u8 0, .int .u8 0, .int .u8 0] 128 (heap_new w _) [.int .u8 z0, .int .u8 z1, .int .u8 z2, .int .u8 z3] (by simp) (fun _ => ⟨rfl, _, rfl, S.out⟩) (by simp) (by simp [one_u8]) w.heap.size w (by go_grown) (Nat.le_refl _) ?_; intro w2 H2 hB)
  have H3 : w2.heap[w.heap.size]? = some (.cells #[.int .u8 z0, .int .u8 z1, .int .u8 z2, .int .u8 z3] 128) := by have := H2.out; simpa [splice] using this
  obtain ⟨c0, c1, c2, c3⟩ := cells4 H3
  clear H2 H3 f1 f2 f3 f4 f5 e3 e4 S
  go_wp2_with (go_at_call 120; refine (read_any z0 z1 z2 z3 _ hz0 hz1 hz2 hz3).mono ?_; rintro e w3 ⟨rfl, hb3⟩)
  go_ret2
  exact ⟨ret_int2 (by omega), hB.trans (hb3.mono hB.size)⟩
open Go.RowKit
theorem szB_true {s : Int} (h : szB s = true) : s = 1 ∨ s = 2 ∨ s = 4 := by
  simp [szB] at h; omega
theorem get_short (a : Option Addr) (len cap : Nat) (k s : Int) (w : World) (hm : len ≤ maxLen) (hs : szB s = true) (h0 : 0 ≤ k) (h : (len : Int) - s < k) :
    Calls Tryz.prog 89 #[.slice a len cap, .int .i64 k, .int .i64 s] w fun e w' => e = .returned (.tuple #[.int .i64 0, .int .i64 3]) ∧ w = w' := by
  unfold maxLen at hm
  have h1 := szB_true hs
  have h2 : 1 ≤ s ∧ s ≤ 4 := by omega
  clear h1
  have h3 : ¬ k < 0 := by omega
  go_enter Tryz.func89, Tryz.ntmps89
  go_wp2_with (go_at_call 119; refine (isSize_any _ _).mono ?_; rintro e w' ⟨rfl, rfl⟩)
  go_ret2
  exact ⟨rfl, rfl⟩
open Go.RowKit
theorem szB_false {s : Int} (h : szB s = false) : ¬ s = 1 ∧ ¬ s = 2 ∧ ¬ s = 4 := by
  simp [szB] at h; omega
theorem rget_short (a : Option Addr) (len cap : Nat) (k s : Int) (w : World) (hm : len ≤ maxLen) (hs : szB s = true) (h0 : 0 ≤ k) (h : (len : Int) - s < k) :
    Calls Tryz.prog 55 #[.slice a len cap, .int .i64 k, .int .i64 s] w fun e w' => e = .returned (.tuple #[.int .i64 0, .int .i64 3]) ∧ w = w' := by
  unfold maxLen at hm
  have h3 : ¬ k < 0 := by omega
  by_cases hl : (len : Int) < k
  · rcases szB_true hs with rfl | rfl | rfl
    all_goals
      clear hs
      go_enter Tryz.func55, Tryz.ntmps55
      go_wp2
      go_ret2
      exact ⟨rfl, rfl⟩
  · have h4 : (len : Int) - k < s := by omega
    rcases szB_true hs with rfl | rfl | rfl
    all_goals
      clear hs
      go_enter Tryz.func55, Tryz.ntmps55
      go_wp2
      go_ret2
      exact ⟨rfl, rfl⟩
theorem rget_ok2 (b off len cap k : Nat) (z0 z1 : Int) (w : World) (hz0 : 0 ≤ z0 ∧ z0 ≤ 255) (hz1 : 0 ≤ z1 ∧ z1 ≤ 255) (hk : k + 2 ≤ len) (hl : len ≤ cap) (hm : cap ≤ maxLen) (hc0 : w.cell? ⟨b, off + k, none⟩ = some (.int .u8 z0)) (hc1 : w.cell? ⟨b, off + k + 1, none⟩ = some (.int .u8 z1)) :
    Calls Tryz.prog 55 #[.slice (some ⟨b, off, none⟩) len cap, .int .i64 k, .int .i64 2] w fun e w' => e = .returned (.tuple #[.int .i64 (z0 * 256 + z1), .int .i64 0]) ∧ w = w' := by
  unfold maxLen at hm
  rw [Nat.add_assoc] at hc1
  have h1 : ¬ ((k : Int) < 0) := by omega
  have h2 : ¬ ((len : Int) < (k : Int)) := by omega
  have h3 : ¬ ((len : Int) - (k : Int) < 2) := by omega
  go_enter Tryz.func55, Tryz.ntmps55
  go_wp2
  go_rounds 3
  go_ret2
  exact ⟨ret_int2 (by omega), rfl⟩
theorem rget_ok4 (b off len cap k : Nat) (z0 z1 z2 z3 : Int) (w : World) (hz0 : 0 ≤ z0 ∧ z0 ≤ 255) (hz1 : 0 ≤ z1 ∧ z1 ≤ 255) (hz2 : 0 ≤ z2 ∧ z2 ≤ 255) (hz3 : 0 ≤ z3 ∧ z3 ≤ 255) (hk : k + 4 ≤ len) (hl : len ≤ cap) (hm : cap ≤ maxLen) (hc0 : w.cell? ⟨b, off + k, none⟩ = some (.int .u8 z0)) (hc1 : w.cell? ⟨b, off + k + 1, none⟩ = some (.int .u8 z1)) (hc2 : w.cell? ⟨b, off + k + 2, none⟩ = some (.int .u8 z2)) (hc3 : w.cell? ⟨b, off + k + 3, none⟩ = some (.int .u8 z3)) :
    Calls Tryz.prog 55 #[.slice (some ⟨b, off, none⟩) len cap, .int .i64 k, .int .i64 4] w fun e w' => e = .returned (.tuple #[.int .i64 (((z0 * 256 + z1) * 256 + z2) * 256 + z3), .int .i64 0]) ∧ w = w' := by
  unfold maxLen at hm
  rw [Nat.add_assoc] at hc1
  rw [Nat.add_assoc] at hc2
  rw [Nat.add_assoc] at hc3
  have h1 : ¬ ((k : Int) < 0) := by omega
  have h2 : ¬ ((len : Int) < (k : Int)) := by omega
  have h3 : ¬ ((len : Int) - (k : Int) < 4) := by omega
  go_enter Tryz.func55, Tryz.ntmps55
  go_wp2
  go_rounds 5
  go_ret2
  exact ⟨ret_int2 (by omega), rfl⟩
open Go.RowKit
def lim (s : Int) : Int := if s = 1 then 256 else if s = 2 then 65536 else 4294967296
def rightB (n s : Int) : Bool := szB s && (decide (0 ≤ n) && decide (n < lim s))
theorem rightB_not {n s : Int} (h : szB s = false) : rightB n s = false := by simp [rightB, h]
theorem rightB_neg {n s : Int} (h : ¬ 0 ≤ n) : rightB n s = false := by simp [rightB, h]
theorem rightB_in1 {n : Int} (h0 : 0 ≤ n) (h : n < 256) : rightB n 1 = true := by simp [rightB, szB, lim, h0, h]
theorem rightB_out1 {n : Int} (h : ¬ n < 256) : rightB n 1 = false := by simp [rightB, szB, lim]; omega
theorem rightB_in2 {n : Int} (h0 : 0 ≤ n) (h : n < 65536) : rightB n 2 = true := by simp [rightB, szB, lim, h0, h]
theorem rightB_out2 {n : Int} (h : ¬ n < 65536) : rightB n 2 = false := by simp [rightB, szB, lim]; omega
theorem rightB_in4 {n : Int} (h0 : 0 ≤ n) (h : n < 4294967296) : rightB n 4 = true := by simp [rightB, szB, lim, h0, h]
theorem rightB_out4 {n : Int} (h : ¬ n < 4294967296) : rightB n 4 = false := by simp [rightB, szB, lim]; omega
theorem right_1 (n : Int) (w : World) :
    Calls Tryz.prog 98 #[.int .i64 n, .int .i64 1] w fun e w' => e = .returned (.bool (rightB n 1)) ∧ w = w' := by
  have hs : szB 1 = true := rfl
  by_cases h0 : 0 ≤ n
  · by_cases h1 : n < 256
    · rw [rightB_in1 h0 h1]
      have hd : decide (n < 256) = true := by simpa using h1
      have hd2 : decide (n ≤ 255) = true := by simp; omega
      go_enter Tryz.func98, Tryz.ntmps98
      go_wp2_with (go_at_call 119; refine (isSize_any _ _).mono ?_; rintro e w' ⟨rfl, rfl⟩)
      go_ret
      exact ⟨rfl, rfl⟩
    · rw [rightB_out1 h1]
      have hd : decide (n < 256) = false := by simpa using h1
      have hd2 : decide (n ≤ 255) = false := by simp; omega
      go_enter Tryz.func98, Tryz.ntmps98
      go_wp2_with (go_at_call 119; refine (isSize_any _ _).mono ?_; rintro e w' ⟨rfl, rfl⟩)
      go_ret
      exact ⟨rfl, rfl⟩
  · rw [rightB_neg h0]
    have hd : decide (0 ≤ n) = false := by simpa using h0
    go_enter Tryz.func98, Tryz.ntmps98
    go_wp2_with (go_at_call 119; refine (isSize_any _ _).mono ?_; rintro e w' ⟨rfl, rfl⟩)
    go_ret
    exact ⟨rfl, rfl⟩
theorem right_2 (n : Int) (w : World) :
    Calls Tryz.prog 98 #[.int .i64 n, .int .i64 2] w fun e w' => e = .returned (.bool (rightB n 2)) ∧ w = w' := by
  have hs : szB 2 = true := rfl
  by_cases h0 : 0 ≤ n
  · by_cases h1 : n < 65536
    · rw [rightB_in2 h0 h1]
      have hd : decide (n < 65536) = true := by simpa using h1
      have hd2 : decide (n ≤ 65535) = true := by simp; omega
      go_enter Tryz.func98, Tryz.ntmps98
      go_wp2_with (go_at_call 119; refine (isSize_any _ _).mono ?_; rintro e w' ⟨rfl, rfl⟩)
      go_ret
      exact ⟨rfl, rfl⟩
    · rw [rightB_out2 h1]
      have hd : decide (n < 65536) = false := by simpa using h1
      have hd2 : decide (n ≤ 65535) = false := by simp; omega
      go_enter Tryz.func98, Tryz.ntmps98
      go_wp2_with (go_at_call 119; refine (isSize_any _ _).mono ?_; rintro e w' ⟨rfl, rfl⟩)
      go_ret
      exact ⟨rfl, rfl⟩
  · rw [rightB_neg h0]
    have hd : decide (0 ≤ n) = false := by simpa using h0
    go_enter Tryz.func98, Tryz.ntmps98
    go_wp2_with (go_at_call 119; refine (isSize_any _ _).mono ?_; rintro e w' ⟨rfl, rfl⟩)
    go_ret
    exact ⟨rfl, rfl⟩
theorem right_4 (n : Int) (w : World) :
    Calls Tryz.prog 98 #[.int .i64 n, .int .i64 4] w fun e w' => e = .returned (.bool (rightB n 4)) ∧ w = w' := by
  have hs : szB 4 = true := rfl
  by_cases h0 : 0 ≤ n
  · by_cases h1 : n < 4294967296
    · rw [rightB_in4 h0 h1]
      have hd : decide (n < 4294967296) = true := by simpa using h1
      have hd2 : decide (n ≤ 4294967295) = true := by simp; omega
      go_enter Tryz.func98, Tryz.ntmps98
      go_wp2_with (go_at_call 119; refine (isSize_any _ _).mono ?_; rintro e w' ⟨rfl, rfl⟩)
      go_ret
      exact ⟨rfl, rfl⟩
    · rw [rightB_out4 h1]
      have hd : decide (n < 4294967296) = false := by simpa using h1
      have hd2 : decide (n ≤ 4294967295) = false := by simp; omega
      go_enter Tryz.func98, Tryz.ntmps98
      go_wp2_with (go_at_call 119; refine (isSize_any _ _).mono ?_; rintro e w' ⟨rfl, rfl⟩)
      go_ret
      exact ⟨rfl, rfl⟩
  · rw [rightB_neg h0]
    have hd : decide (0 ≤ n) = false := by simpa using h0
    go_enter Tryz.func98, Tryz.ntmps98
    go_wp2_with (go_at_call 119; refine (isSize_any _ _).mono ?_; rintro e w' ⟨rfl, rfl⟩)
    go_ret
    exact ⟨rfl, rfl⟩
theorem right_any (n s : Int) (w : World) :
    Calls Tryz.prog 98 #[.int .i64 n, .int .i64 s] w fun e w' => e = .returned (.bool (rightB n s)) ∧ w = w' := by
  cases hs : szB s
  · obtain ⟨g1, g2, g4⟩ := szB_false hs
    have e1 : (s == 1) = false := by simpa using g1
    have e2 : (s == 2) = false := by simpa using g2
    have e4 : (s == 4) = false := by simpa using g4
    rw [rightB_not hs]
    clear g1 g2 g4
    go_enter Tryz.func98, Tryz.ntmps98
    go_wp2_with (go_at_call 119; refine (isSize_any _ _).mono ?_; rintro e w' ⟨rfl, rfl⟩)
    go_ret
    exact ⟨rfl, rfl⟩
  · rcases szB_true hs with rfl | rfl | rfl
    · exact right_1 n w
    · exact right_2 n w
    · exact right_4 n w
theorem spell_any (n : Int) (w : World) (h0 : 0 ≤ n) (h1 : n < 4294967296) :
    Calls Tryz.prog 109 #[.int .i64 n] w fun e w' => e = .returned (.agg #[.int .u8 (n / 16777216), .int .u8 (n / 65536 % 256), .int .u8 (n / 256 % 256), .int .u8 (n % 256)]) ∧ Below w.heap.size w w' := by
  go_enter Tryz.func109, Tryz.ntmps109
  go_wp2
  go_rounds 5
  go_returns
  exact ⟨rfl, by go_grown⟩
end
end Go.Proofs.YthhijfphfcmniaaGreat
