import Derived.Test.YthhijfphfcmniaaGreatOye
import Derived.Deep.RegionHeld3
import Derived.Deep.RegionWith
import Derived.Deep.MidRow
import Derived.Deep.Cut
import Derived.Laws.AppendOwnNone
set_option maxRecDepth 100000
set_option maxHeartbeats 8000000
set_option linter.unusedVariables false
set_option linter.unusedSimpArgs false
namespace Go.Proofs.YthhijfphfcmniaaGreat
open Go Go.RowKit
theorem add_zero_addr (a : Addr) : a.add 0 = a := by
  obtain ⟨b, o, p⟩ := a
  cases p <;> simp [Addr.add]
theorem bytes_take {w : World} {ao : Option Addr} {n cap : Nat} {l : List Int} (h : Bytes w (.slice ao n cap) l) (s : Nat) (hs : s ≤ l.length) :
    (∀ wx, (Instr.sliceAt 25 (.slice ao n cap) none (some (.int .i64 (s : Int))) none).run Tryz.prog wx = .ok (.slice ao s cap) wx) ∧
      (∀ wx, (Instr.slice 25 (.slice ao n cap) none (some (.int .i64 (s : Int))) none).run Tryz.prog wx = .ok (.slice ao s cap) wx) ∧ Bytes w (.slice ao s cap) (l.take s) := by
  obtain ⟨a, c, e, h1, h2, h3, h4, h5⟩ := h
  cases e
  have r2 : ∀ wx, (Instr.slice 25 (.slice ao l.length cap) none (some (.int .i64 (s : Int))) none).run Tryz.prog wx = .ok (.slice ao s cap) wx := by
    intro wx
    rw [run_slice_h wx 25 ao l.length cap u51 .i64 (s : Int) (by omega) (by omega), sz51]
    have : ao.map (fun x => x.add 0) = ao := by cases ao <;> simp [add_zero_addr]
    simp [sliced, this]
  refine ⟨fun wx => ?_, r2, ?_⟩
  · rw [run_sliceAt_slice wx 25 _ _ _ _ u51]; exact r2 wx
  · have hl : (l.take s).length = s := by simp; omega
    refine ⟨ao, cap, by rw [hl], by omega, h2, fun z hz => h3 z (List.mem_of_mem_take hz), h4, fun ad he j z hz => ?_⟩
    rw [List.getElem?_take] at hz
    split at hz
    · exact h5 ad he j z hz
    · cases hz
end Go.Proofs.YthhijfphfcmniaaGreat
namespace Go.Proofs.YthhijfphfcmniaaGreat
open Go Go.RowKit
end Go.Proofs.YthhijfphfcmniaaGreat
