import Derived.Test.YtcffebkebldjcaaEn
import Derived.Test.YtcffebkebldjcaaEx
import Derived.Test.YtcffebkebldjcaaEu
import Derived.Deep.RegionHeld3
import Derived.Deep.RegionWith
import Derived.Deep.MidRow
import Derived.Deep.Cut
namespace Go.Proofs.Ytcffebkebldjcaa
open Go Go.RowKit
set_option linter.unusedVariables false
set_option linter.unusedSimpArgs false

set_option maxRecDepth 100000 in
set_option maxHeartbeats 4000000 in
theorem matchCubes_walk (v : Value) (L : List O6) (f : Int) (w : World) (hL : OxAt w v L) :
    Calls Try.prog 4 #[v, .int .i64 f] w fun e w' => e = .returned (.bool true) ∧ Below w.heap.size w w' := by
  have aw := hide_ (fun w => awake11_any w)
  obtain ⟨s, sc, rfl, hl⟩ := hL
  have hL : OxAt w (.slice s L.length sc) L := ⟨s, sc, rfl, hl⟩
  by_cases g1 : (60 : Int) < (L.length : Int)
  · clear hL hl
    go_enter Try.func4, Try.ntmps4
    go_wp2_with (go_at_call 8; refine (aw.out _).mono ?_; rintro e w3 ⟨rfl, b3⟩)
    go_ret
    exact ⟨rfl, b3⟩
  · have q1 := hide_ (fun W hW => mcube_any _ L W (hL.later (w' := W) hW))
    have q2 := hide_ (fun W hW => rcube_any _ L W (hL.later (w' := W) hW))
    have q3 := hide_ (fun W hW => met_any _ L f W (hL.later (w' := W) hW))
    have q4 := hide_ (fun W hW => rmet_any _ L f W (hL.later (w' := W) hW))
    have heq := fun w => run_ceqIn (cubeL L) (cubeL L) (cubeL_len L) (cubeL_len L) w
    rw [decide_eq_true rfl] at heq
    generalize (tdc (cubeL L)).toArray = CA at *
    generalize metB L f = z at *
    clear hL hl
    have k0 : Below w.heap.size w w := Below.refl _ _
    go_enter Try.func4, Try.ntmps4
    go_wp2_with (first | (go_at_call 16; refine (q1.out _ k0).mono ?_; rintro e w1 ⟨rfl, b1⟩; have k1 := k0.trans (b1.mono k0.size)) | (go_at_call 17; refine (q2.out _ k1).mono ?_; rintro e w2 ⟨rfl, b2⟩; have k2 := k1.trans (b2.mono k1.size)) | (go_at_call 18; refine (q3.out _ k2).mono ?_; rintro e w3 ⟨rfl, b3⟩; have k3 := k2.trans (b3.mono k2.size)) | (go_at_call 19; refine (q4.out _ k3).mono ?_; rintro e w4 ⟨rfl, b4⟩; have k4 := k3.trans (b4.mono k3.size)) | (go_at_call 8; refine (aw.out _).mono ?_; rintro e w5 ⟨rfl, b5⟩))
    go_ret
    exact ⟨by first | rfl | simp, k4.trans (b5.mono k4.size)⟩


end Go.Proofs.Ytcffebkebldjcaa
