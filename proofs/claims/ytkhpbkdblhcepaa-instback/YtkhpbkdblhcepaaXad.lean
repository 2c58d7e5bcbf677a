import Derived.Test.YtkhpbkdblhcepaaProg
import Derived.WalkKit
import Derived.Laws.BitsLemmas
import Derived.WalkSpells
import Derived.WalkLawsBesides
import Derived.Below
import Derived.Handy
import Derived.Laws.AppendOwn
import Derived.Laws.AppendOwnNone
import Derived.Laws.OwnMore
import Derived.Laws.BitsAllLaws
import Derived.BigQuiet
import Derived.BigRegion
import Derived.Deep.QuietTactic
import Derived.Deep.RegionHeld3
import Derived.Deep.RegionLaw
import Derived.Deep.RegionLawGrows
import Derived.Laws.CopyOwn
import Derived.Laws.Rows
import Derived.Laws.StructEq
import Derived.OpenShut
import Derived.ProofKit
import Derived.RegionTactic
import Derived.WalkSmall
namespace Go.Proofs.Ytkhpbkdblhcepaa
section
open Go Go.RowKit
set_option linter.unusedVariables false
set_option linter.unusedSimpArgs false
open Go.RowKit

theorem wraps_i64 (n : Int) (h₀ : 0 ≤ n) (h₁ : n < 2 ^ 63) : IntKind.i64.wrap n = n := by rw [IntKind.wrap_i64]; omega

theorem or8 (x y : Int) (hx₀ : 0 ≤ x) (hx : x % 256 = 0) (hx₁ : x < 9223372036854775808) (h₀ : 0 ≤ y) (h₁ : y ≤ 255) : bits .or .i64 x y = x + y :=
  bits_join .i64 63 (by decide) wraps_i64 8 x y hx₀ hx hx₁ h₀ (by omega) (by omega)

theorem w64 (n : Int) (h₀ : 0 ≤ n) (h₁ : n < 9223372036854775808) : wrap64 n = n := by
  have := wraps_i64 n h₀ h₁
  simpa [wrap64, IntKind.wrap_i64] using this

theorem step8 (x y : Int) (h0 : 0 ≤ x) (h1 : x < 18014398509481984) (h₀ : 0 ≤ y) (h₁ : y ≤ 255) : bits .or .i64 (wrap64 (x * 256)) y = x * 256 + y := by
  rw [w64 (x * 256) (by omega) (by omega), or8 (x * 256) y (by omega) (by omega) (by omega) h₀ h₁]

theorem read4 (a b c d : Int) (ha : 0 ≤ a ∧ a ≤ 255) (hb : 0 ≤ b ∧ b ≤ 255) (hc : 0 ≤ c ∧ c ≤ 255) (hd : 0 ≤ d ∧ d ≤ 255) :
    bits .or .i64 (wrap64 (bits .or .i64 (wrap64 (bits .or .i64 (wrap64 (bits .or .i64 0 a * 256)) b * 256)) c * 256)) d = ((a * 256 + b) * 256 + c) * 256 + d := by
  have e0 : bits .or .i64 0 a = a := by rw [or8 0 a (by omega) (by omega) (by omega) (by omega) (by omega)]; omega
  rw [e0, step8 a b (by omega) (by omega) (by omega) (by omega), step8 _ c (by omega) (by omega) (by omega) (by omega), step8 _ d (by omega) (by omega) (by omega) (by omega)]

theorem ret_int {k : IntKind} {a b : Int} (h : a = b) : Ending.returned (.int k a) = .returned (.int k b) := by rw [h]
end

section
open Go Go.RowKit
set_option linter.unusedVariables false
set_option linter.unusedSimpArgs false

theorem hide_ {p : Prop} (h : p) : Hid p := h

/-- bytes as cells -/
def u8s (l : List Int) : List Value := l.map (Value.int .u8)

theorem u8s_length (l : List Int) : (u8s l).length = l.length := by simp [u8s]

theorem u8s_one (l : List Int) : ∀ u ∈ u8s l, u.oneCell' = true := by
  intro u hu; obtain ⟨z, _, rfl⟩ := List.mem_map.1 hu; rfl

theorem u8s_append (l m : List Int) : u8s (l ++ m) = u8s l ++ u8s m := by simp [u8s]

/-- all are bytes -/
def isB (l : List Int) : Prop := ∀ z ∈ l, 0 ≤ z ∧ z ≤ 255

theorem isB.app {l m : List Int} (h : isB l) (k : isB m) : isB (l ++ m) := by
  intro z hz; rcases List.mem_append.1 hz with hz | hz
  · exact h z hz
  · exact k z hz

/-- a slice of bytes reads as a list -/
def Bytes (w : World) (v : Value) (l : List Int) : Prop :=
  ∃ a cap, v = .slice a l.length cap ∧ l.length ≤ cap ∧ cap ≤ maxLen ∧ isB l ∧ (a = none → cap = 0) ∧
    ∀ ad, a = some ad → ∀ j z, l[j]? = some z → w.cell? (ad.add j) = some (.int .u8 z)

theorem Bytes.later {w w' : World} {v : Value} {l : List Int} (h : Bytes w v l) (hb : Below w.heap.size w w') : Bytes w' v l := by
  obtain ⟨a, cap, rfl, h1, h2, h3, h4, h5⟩ := h
  exact ⟨a, cap, rfl, h1, h2, h3, h4, fun ad e j z hz => cell_later hb (h5 ad e j z hz)⟩

theorem Bytes.ofOwn {w : World} {base : Nat} {e : TypeId} {v : Value} {l : List Int} (h : w.ownsRow base e 1 v l.length (u8s l)) (hl : isB l) : Bytes w v l := by
  rcases h.2 with ⟨rfl, h0⟩ | ⟨g, cap, cur, rfl, hb, hg, h1, h2, h3, h4⟩
  · have : l = [] := List.eq_nil_of_length_eq_zero h0
    subst this
    exact ⟨none, 0, rfl, Nat.le_refl _, Nat.zero_le _, hl, fun _ => rfl, fun _ e => by cases e⟩
  · refine ⟨some ⟨g, 0, none⟩, cap, rfl, h1, h2, hl, (fun e => by cases e), fun ad e j z hz => ?_⟩
    cases e
    exact h.cells rfl j _ (by simp [u8s, hz])

theorem Bytes.nil (w : World) : Bytes w (.slice none 0 0) [] :=
  ⟨none, 0, rfl, Nat.le_refl _, Nat.zero_le _, (fun _ h => by cases h), fun _ => rfl, fun _ e => by cases e⟩

/-- an append of bytes onto what the call owns -/
theorem wpList_append_ownB {P : Program} {w : World} {ops : Array Oper} {rest : List Oper} {o : Oper} {a : Act} {Q : Exit → Act → World → Prop} (hgd : o.guard = none) (s x : Operand) (t : TypeId)
    (ho : o.op = .call { callee := .builtin .append, args := #[s, x], argTypes := #[t, t] })
    (base : Nat) (e : TypeId) (i : TypeInfo) (ht : P.underlying t = some (.slice e)) (hi : P.info? e = some i) (hz : i.zero = some (.int .u8 0))
    (hsize : i.size = 1) (hby : i.bytes = 1)
    (v : Value) (n : Nat) (xs : List Value) (hs : a.eval s = v) (hown : w.ownsRow base e 1 v n xs)
    (u : Value) (l : List Int) (hx : a.eval x = u) (hB : Bytes w u l)
    (h63 : n + l.length ≤ 140737488355328) (hbase : base ≤ w.heap.size)
    (h : ∀ v' w', w'.ownsRow base e 1 v' (n + l.length) (xs ++ u8s l) → w.grownBy w' v.ownBlock → wpList P ops Q rest (a.put o.dst v') w') : wpList P ops Q (o :: rest) a w := by
  obtain ⟨ad, cap, rfl, h1, h2, h3, h4, h5⟩ := hB
  cases ad with
  | none =>
    have hc := h4 rfl
    subst hc
    have hl : l = [] := List.eq_nil_of_length_eq_zero (by omega)
    subst hl
    refine wpList_append_own_none hgd s x t ho base e i 1 ht hi v n xs hs hown hx ?_
    refine h v w ?_ ⟨rfl, rfl, rfl, Nat.le_refl _, fun _ _ _ => rfl⟩
    simpa [u8s] using hown
  | some ad =>
    refine wpList_append_own w hgd s x t ho base e i (.int .u8 0) 1 1 ht hi hz hsize hby rfl (by decide) v n xs hs hown ad l.length cap (u8s l) hx (by simp [u8s]) ?_ (u8s_one l) (by unfold maxLen; omega) (by omega) hbase (fun v' w' a1 a2 _ => h v' w' a1 a2)
    intro j u hu
    unfold u8s at hu
    rw [List.getElem?_map] at hu
    cases hj : l[j]? with
    | none => rw [hj] at hu; cases hu
    | some z => rw [hj] at hu; cases hu; exact h5 ad rfl j z hj

theorem below_grown {w w' : World} {row : Option Nat} (hg : w.grownBy w' row) (B : Nat) (hB : B ≤ w.heap.size) (hr : ∀ k, row = some k → B ≤ k) : Below B w w' :=
  (Below.refl B w).grown hg hB hr
end

section
open Go Go.RowKit
set_option linter.unusedVariables false
set_option linter.unusedSimpArgs false

/-- neighbours added -/
def nb (B : Nat) : Nat → Nat → Nat
  | 0, _ => 0
  | n + 1, x => (x % B + x / B % B) + B * B * nb B n (x / (B * B))
end

section
open Go Go.RowKit
set_option linter.unusedVariables false
set_option linter.unusedSimpArgs false

/-- a size is one -/
def szB (s : Int) : Bool := s == 1 || s == 2 || s == 4

set_option maxHeartbeats 400000 in
theorem isSize_any (s : Int) (w : World) :
    Calls Try.prog 133 #[.int .i64 s] w fun e w' => e = .returned (.bool (szB s)) ∧ w = w' := by
  by_cases h1 : s = 1
  · subst h1
    go_enter Try.func133, Try.ntmps133
    go_wp2
    go_ret
    exact ⟨rfl, rfl⟩
  · have h1' : (s == 1) = false := by simpa using h1
    by_cases h2 : s = 2
    · subst h2
      go_enter Try.func133, Try.ntmps133
      go_wp2
      go_ret
      exact ⟨rfl, rfl⟩
    · have h2' : (s == 2) = false := by simpa using h2
      by_cases h4 : s = 4
      · subst h4
        go_enter Try.func133, Try.ntmps133
        go_wp2
        go_ret
        exact ⟨rfl, rfl⟩
      · have h4' : (s == 4) = false := by simpa using h4
        go_enter Try.func133, Try.ntmps133
        go_wp2
        go_ret
        exact ⟨by simp [szB, h1', h2', h4'], rfl⟩
end

section
open Go Go.RowKit
set_option linter.unusedVariables false
set_option linter.unusedSimpArgs false
open Go.RowKit

set_option maxHeartbeats 400000 in
theorem read_any (a b c d : Int) (w : World) (ha : 0 ≤ a ∧ a ≤ 255) (hb : 0 ≤ b ∧ b ≤ 255) (hc : 0 ≤ c ∧ c ≤ 255) (hd : 0 ≤ d ∧ d ≤ 255) :
    Calls Try.prog 134 #[.agg #[.int .u8 a, .int .u8 b, .int .u8 c, .int .u8 d]] w fun e w' => e = .returned (.int .i64 (((a * 256 + b) * 256 + c) * 256 + d)) ∧ Below w.heap.size w w' := by
  go_enter Try.func134, Try.ntmps134
  go_wp2
  go_rounds 5
  go_ret
  exact ⟨ret_int (read4 a b c d ha hb hc hd), by go_grown⟩
end

end Go.Proofs.Ytkhpbkdblhcepaa

