import Derived.Test.YtbdbehdgpmfelaaVd
import Derived.Deep.RegionHeld3
namespace Go.Proofs.Ytbdbehdgpmfelaa
open Go Go.RowKit
set_option linter.unusedVariables false
set_option linter.unusedSimpArgs false

theorem wpOpsIn_of {P : Program} {l : Nat} {ops : Array Oper} {Q : Exit → Act → World → Prop} (hQ : ¬ LetsOut Q) (hd : noDefer ops.toList = true) : ∀ (is : List Nat) (a : Act) (w : World), wpOps P ops Q is a w → wpOpsIn (Fence.wide.inRound l) 0 P ops Q is a w
  | [], _, _, h => h
  | i :: is, a, w, h => by
    unfold wpOps at h
    unfold wpOpsIn
    cases ho : ops[i]? with
    | none =>
      rw [ho] at h
      exact wpOpsIn_of hQ hd is a w h
    | some o =>
      rw [ho] at h
      have hn : ∀ c, o.op ≠ .defer c := fun c e => by
        unfold noDefer at hd
        have := List.all_eq_true.1 hd o (by rw [Array.mem_toList_iff]; exact Array.mem_of_getElem? ho)
        rw [e] at this
        cases this
      dsimp only at h ⊢
      split at h
      · rename_i hw
        rw [if_pos hw]
        rcases h with h | h
        · refine ⟨fun _ _ => trivial, ?_⟩
          rw [Oper.semAt_plain _ _ _ hn]
          exact uponIn_of (fun a w => wpOpsIn_of hQ hd is a w) _ h
        · exact (hQ h.2).elim
      · rename_i hw
        rw [if_neg hw]
        exact ⟨fun _ _ => trivial, wpOpsIn_of hQ hd is _ _ h⟩
/-- a region that draws, within a round -/
theorem wpIn_region_held {P : Program} {l id : Nat} {ops : Array Oper} {Q : Exit → Act → World → Prop} {S : World → Prop} {a : Act} {w : World} (hQ : ¬ LetsOut Q) (hd : noDefer ops.toList = true) (hm : P.follows .mixedOrders = true) (hS : S w.drew)
    (h : S w.drew → wpAnyH P .any ops Q S ops.size (Array.replicate ops.size false) a w.drew) : (Code.region id ops true).wpIn (Fence.wide.inRound l) 0 P Q a w := by
  refine wpIn_region_draw fun t => wpOpsIn_of hQ hd _ _ _ ?_
  have h2 := wpAny_of_held _ _ _ _ (h hS)
  unfold Region.schedule
  rw [hm]
  exact wpAny_sound _ _ _ _ _ h2

end Go.Proofs.Ytbdbehdgpmfelaa
