import Derived.Test.YtmpfpolanndakaaFk
import Derived.Laws.StructEq
namespace Go.Proofs.Ytmpfpolanndakaa
open Go Go.RowKit
set_option linter.unusedVariables false
set_option linter.unusedSimpArgs false

theorem fid_inj : ∀ j : Fin 24, ∀ k : Fin 24, fid ((k.val : Nat) : Int) = fid ((j.val : Nat) : Int) → k = j := by decide
theorem idx_fid (j : Nat) (h : j < 24) : idxt (fid (j : Int)) = .tuple #[.int .i64 (j : Int), .bool true] :=
  fidx_some h rfl (fun i hi e => by have := fid_inj ⟨j, h⟩ ⟨i, by omega⟩ e; simp at this; omega)
theorem fname_inj : ∀ j : Fin 24, ∀ k : Fin 24, (fname ((j.val : Nat) : Int)).data = (fname ((k.val : Nat) : Int)).data → j = k := by decide

theorem bytes_ne {n m : ByteArray} (h : ¬ n.data = m.data) : (n == m) = false := by
  cases n with | mk a => cases m with | mk b =>
  show (a == b) = false
  simpa using h

set_option maxRecDepth 100000 in
set_option maxHeartbeats 2000000 in
theorem fieldBack_any (X Y : Nat) (w : World) (hX : X < 256) (hY : Y < 256) :
    Calls Try.prog 4 #[.int .u8 (X : Int), .int .u8 (Y : Int)] w fun e w' => e = .returned (.bool true) ∧ Below w.heap.size w w' := by
  obtain ⟨j, hj, j24⟩ : ∃ j : Nat, (X : Int) % 24 = (j : Int) ∧ j < 24 := ⟨X % 24, by omega, by omega⟩
  obtain ⟨k, hk, k24⟩ : ∃ j : Nat, (Y : Int) % 24 = (j : Int) ∧ j < 24 := ⟨Y % 24, by omega, by omega⟩
  have q1 := hide_ (fun w => fid_any (j : Int) w)
  have q2 := hide_ (fun w => index_any (fid (j : Int)) w)
  rw [idx_fid j j24] at q2
  have q3 := hide_ (fun w => fname_any (j : Int) w)
  have q4 := hide_ (fun w => fname_any (k : Int) w)
  by_cases e : j = k
  · subst e
    have ee : ((j : Int) == (j : Int)) = true := by simp
    clear q3 q4
    generalize fid (j : Int) = x at *
    go_enter Try.func4, Try.ntmps4
    go_wp2_with (first | (go_at_call 11; refine (q1.out _).mono ?_; rintro e w1 ⟨rfl, h1⟩) | (go_at_call 9; refine (q2.out _).mono ?_; rintro e w2 ⟨rfl, h2⟩) | (go_at_call 27; refine (awake3_any _).mono ?_; rintro e w3 ⟨rfl, h3⟩))
    go_ret
    have a2 := h1.trans (h2.mono h1.size)
    exact ⟨rfl, a2.trans (h3.mono a2.size)⟩
  · have ej : ((j : Int) == (j : Int)) = true := by simp
    have ee : ((j : Int) == (k : Int)) = false := by simp; omega
    have HN : Hid (¬ (fname (j : Int)).data = (fname (k : Int)).data) := hide_ (fun h => e (by have := fname_inj ⟨j, j24⟩ ⟨k, k24⟩ h; simpa using this))
    generalize fid (j : Int) = x at *
    generalize hn : fname (j : Int) = n at *
    generalize hm : fname (k : Int) = m at *
    clear hn hm
    have hnm : (n == m) = false := bytes_ne HN.out
    have hnm2 : (n != m) = true := by simp [bne, hnm]
    have hnm3 : (n.toList == m.toList) = false := by rw [← beq_toListBytes]; exact hnm
    go_enter Try.func4, Try.ntmps4
    go_wp2_with (first | (go_at_call 11; refine (q1.out _).mono ?_; rintro e w1 ⟨rfl, h1⟩) | (go_at_call 9; refine (q2.out _).mono ?_; rintro e w2 ⟨rfl, h2⟩) | (go_at_call 27; refine (awake3_any _).mono ?_; rintro e w3 ⟨rfl, h3⟩) | (go_at_call_of 19 (Value.int .i64 (j : Int)); refine (q3.out _).mono ?_; rintro e w4 ⟨rfl, h4⟩) | (go_at_call_of 19 (Value.int .i64 (k : Int)); refine (q4.out _).mono ?_; rintro e w5 ⟨rfl, h5⟩))
    go_ret
    have a2 := h1.trans (h2.mono h1.size)
    have a4 := a2.trans (h4.mono a2.size)
    have a5 := a4.trans (h5.mono a4.size)
    exact ⟨rfl, a5.trans (h3.mono a5.size)⟩

end Go.Proofs.Ytmpfpolanndakaa
