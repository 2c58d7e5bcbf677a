import Derived.Test.YtmpfpolanndakaaFc
namespace Go.Proofs.Ytmpfpolanndakaa
open Go Go.RowKit
set_option linter.unusedVariables false
set_option linter.unusedSimpArgs false

/-- the field of a number -/
def fidx (id : Int) : Option Nat := (List.range 24).find? fun j => fid (j : Int) == id
def idxt (id : Int) : Value := match fidx id with
  | some j => .tuple #[.int .i64 (j : Int), .bool true]
  | none => .tuple #[.int .i64 0, .bool false]
theorem fidx_some {id : Int} {k : Nat} (hk : k < 24) (h : fid (k : Int) = id) (ha : ∀ j, j < k → fid ((j : Nat) : Int) ≠ id) : idxt id = .tuple #[.int .i64 (k : Int), .bool true] := by
  have : fidx id = some k := by
    unfold fidx
    rw [List.find?_range_eq_some]
    exact ⟨by simpa using h, by simpa using hk, fun j hj => by simpa using ha j hj⟩
  unfold idxt
  rw [this]
theorem fidx_none {id : Int} (ha : ∀ j, j < 24 → fid ((j : Nat) : Int) ≠ id) : idxt id = .tuple #[.int .i64 0, .bool false] := by
  have : fidx id = none := by
    unfold fidx
    rw [List.find?_range_eq_none]
    exact fun j hj => by simpa using ha j hj
  unfold idxt
  rw [this]
theorem idx_step {id : Int} {k : Nat} (ha : ∀ j, j < k → fid ((j : Nat) : Int) ≠ id) (h : ¬ fid (k : Int) = id) : ∀ j, j < k + 1 → fid ((j : Nat) : Int) ≠ id := by
  intro j hj
  by_cases e : j = k
  · subst e; exact h
  · exact ha j (by omega)

set_option maxHeartbeats 1000000 in
theorem index_any (id : Int) (w : World) :
    Calls Try.prog 9 #[.int .i64 id] w fun e w' => e = .returned (idxt id) ∧ Below w.heap.size w w' := by
  generalize hT : idxt id = T
  have HT := hide_ hT
  clear hT
  go_enter Try.func9, Try.ntmps9
  go_wp2
  go_loopw [5] (fun i wr => ∃ k : Nat, k ≤ 24 ∧ i = .int .i64 k ∧ Hid (∀ j, j < k → fid ((j : Nat) : Int) ≠ id) ∧ Below w.heap.size w wr) (fun i _ => 24 - (intOf i).toNat)
  case atStart => exact ⟨0, Nat.zero_le _, rfl, hide_ (fun j hj => absurd hj (Nat.not_lt_zero j)), Below.refl _ _⟩
  case round =>
    obtain ⟨k, hk, rfl, HA, hb⟩ := hrel
    by_cases hlt : k < 24
    · have hlt' : (k : Int) < 24 := by omega
      have HF := hide_ (fun w => fid_any (k : Int) w)
      by_cases he : fid (k : Int) = id
      · have HE := hide_ he
        generalize hx : fid (k : Int) = x at HF he
        have HX := hide_ hx
        have g : (x == id) = true := by simpa using he
        clear hx he
        go_wp2_with (go_at_call 11; refine (HF.out _).mono ?_; rintro e w1 ⟨rfl, hb1⟩)
        go_returns
        exact ⟨by rw [← HT.out, fidx_some hlt HE.out HA.out]; rfl, (hb.trans (hb1.mono hb.size))⟩
      · have HE := hide_ he
        generalize hx : fid (k : Int) = x at HF he
        have HX := hide_ hx
        have g : (x == id) = false := by simpa using he
        clear hx he
        go_wp2_with (go_at_call 11; refine (HF.out _).mono ?_; rintro e w1 ⟨rfl, hb1⟩)
        go_roundw
        case rel => exact ⟨k + 1, by omega, by go_num, hide_ (idx_step HA.out HE.out), (hb.trans (hb1.mono hb.size))⟩
        case measure => simp [intOf]; omega
    · have hlt' : ¬ (k : Int) < 24 := by omega
      have h24 : k = 24 := by omega
      subst h24
      go_wp2
      go_returns
      exact ⟨by rw [← HT.out, fidx_none HA.out]; rfl, hb⟩

set_option maxHeartbeats 1000000 in
theorem rindex_any (id : Int) (w : World) :
    Calls Try.prog 10 #[.int .i64 id] w fun e w' => e = .returned (idxt id) ∧ Below w.heap.size w w' := by
  generalize hT : idxt id = T
  have HT := hide_ hT
  clear hT
  go_enter Try.func10, Try.ntmps10
  go_wp2
  go_loopw [4] (fun i wr => ∃ k : Nat, k ≤ 24 ∧ i = .int .i64 k ∧ Hid (∀ j, j < k → fid ((j : Nat) : Int) ≠ id) ∧ Below w.heap.size w wr) (fun i _ => 24 - (intOf i).toNat)
  case atStart => exact ⟨0, Nat.zero_le _, rfl, hide_ (fun j hj => absurd hj (Nat.not_lt_zero j)), Below.refl _ _⟩
  case round =>
    obtain ⟨k, hk, rfl, HA, hb⟩ := hrel
    by_cases hlt : k < 24
    · have hlt' : (k : Int) < 24 := by omega
      have HF := hide_ (fun w => rfid_any (k : Int) w)
      by_cases he : fid (k : Int) = id
      · have HE := hide_ he
        generalize hx : fid (k : Int) = x at HF he
        have HX := hide_ hx
        have g : (x == id) = true := by simpa using he
        clear hx he
        go_wp2_with (go_at_call 12; refine (HF.out _).mono ?_; rintro e w1 ⟨rfl, rfl⟩)
        go_returns
        exact ⟨by rw [← HT.out, fidx_some hlt HE.out HA.out]; rfl, hb⟩
      · have HE := hide_ he
        generalize hx : fid (k : Int) = x at HF he
        have HX := hide_ hx
        have g : (x == id) = false := by simpa using he
        clear hx he
        go_wp2_with (go_at_call 12; refine (HF.out _).mono ?_; rintro e w1 ⟨rfl, rfl⟩)
        go_roundw
        case rel => exact ⟨k + 1, by omega, by go_num, hide_ (idx_step HA.out HE.out), hb⟩
        case measure => simp [intOf]; omega
    · have hlt' : ¬ (k : Int) < 24 := by omega
      have h24 : k = 24 := by omega
      subst h24
      go_wp2
      go_returns
      exact ⟨by rw [← HT.out, fidx_none HA.out]; rfl, hb⟩

end Go.Proofs.Ytmpfpolanndakaa
