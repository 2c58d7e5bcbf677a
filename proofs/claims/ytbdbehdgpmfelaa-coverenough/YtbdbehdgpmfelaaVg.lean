import Derived.Test.YtbdbehdgpmfelaaVf
namespace Go.Proofs.Ytbdbehdgpmfelaa
open Go Go.RowKit
set_option linter.unusedVariables false
set_option linter.unusedSimpArgs false

/-- a box holds how many have come -/
def CntI (n0 Bx : Nat) (w : World) (S : Nat → Prop) (pre : List (List Q4)) (W : World) : Prop :=
  (∀ k, S k → Bx < k) ∧ Boxed W Bx 3 (.int .i64 (pre.length : Int)) ∧ Below n0 w W
theorem CntI.out {n0 Bx : Nat} {w A A' : World} {S : Nat → Prop} {pre : List (List Q4)} (h : CntI n0 Bx w S pre A) (ho : Out S A A') (hn : n0 ≤ Bx) (hw : n0 ≤ w.heap.size) : CntI n0 Bx w S pre A' := by
  obtain ⟨hS, hu, hb⟩ := h
  exact ⟨hS, (ho.block Bx hu.lt (fun e => by have := hS _ e; omega)).trans hu, ho.below hb hw (fun k hk => by have := hS k hk; omega)⟩
theorem CntI.grow {n0 Bx : Nat} {w A A' : World} {S : Nat → Prop} {pre : List (List Q4)} (h : CntI n0 Bx w S pre A) (ho : Below A.heap.size A A') (hw : n0 ≤ w.heap.size) : CntI n0 Bx w (Grow S A A') pre A' := by
  obtain ⟨hS, hu, hb⟩ := h
  have hl := hu.lt
  refine ⟨fun k hk => ?_, (ho.block Bx hl).trans hu, hb.trans (ho.mono (by have := hb.size; omega))⟩
  rcases hk with hk | hk
  · exact hS k hk
  · omega


end Go.Proofs.Ytbdbehdgpmfelaa
