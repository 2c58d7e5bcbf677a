import Derived.Test.YthhijfphfcmniaaGreatNLDe
import Derived.Test.YthhijfphfcmniaaGreatSDe
import Derived.Test.YthhijfphfcmniaaGreatSGe
import Derived.Deep.RegionHeld3
import Derived.Deep.RegionWith
import Derived.Deep.MidRow
import Derived.Deep.Cut
import Derived.Maps.OwnSet
import Derived.Maps.AppendAt
set_option maxRecDepth 100000
set_option maxHeartbeats 8000000
set_option linter.unusedVariables false
set_option linter.unusedSimpArgs false
namespace Go.Proofs.YthhijfphfcmniaaGreat
open Go Go.RowKit Go.Maps
theorem idc_go (ao : Option Addr) (cap : Nat) (m : List Int) (L : List I6) (z : Bool) (c d : Int) (w : World) (hB : Bytes w (.slice ao m.length cap) m) (h7 : m.length ≤ 4000)
    (qd : ∀ W, Bytes W (.slice ao m.length cap) m → Calls Tryz.prog 21 #[.slice ao m.length cap] W fun e w' => (∃ s cc, e = .returned (.tuple #[.slice s L.length cc, .agg #[.bool z, .int .i64 c, .int .i64 d]]) ∧ InstAt w' (.slice s L.length cc) L) ∧ Below W.heap.size W w')
    (qr : ∀ W, Bytes W (.slice ao m.length cap) m → Calls Tryz.prog 22 #[.slice ao m.length cap] W fun e w' => (∃ s cc, e = .returned (.tuple #[.slice s L.length cc, .agg #[.bool z, .int .i64 c, .int .i64 d]]) ∧ InstAt w' (.slice s L.length cc) L) ∧ Below W.heap.size W w') :
    Calls Tryz.prog 4 #[.slice ao m.length cap] w fun e w' => e = .returned (.bool true) ∧ Below w.heap.size w w' := by
  have h7' : ¬ (4000 : Int) < (m.length : Int) := by omega
  have HB := h_ hB
  have qd := h_ (fun W h => qd W h)
  have qr := h_ (fun W h => qr W h)
  have qs := h_ (fun v u W (h1 : InstAt W v L) (h2 : InstAt W u L) => rlsame14_eq v u L W h1 h2)
  clear hB h7
  go_enter Tryz.func4, Tryz.ntmps4
  go_wp2_with (first | (go_at_call 21; refine (qd.out _ HB.out).mono ?_; rintro e w1 ⟨⟨s1, c1, rfl, h1⟩, b1⟩; have H1 := h_ (h1.later (below1 w1 (.cells #[.bool z, .int .i64 c, .int .i64 d] 44))); have k1 := h_ (b1.trans ((below1 w1 (.cells #[.bool z, .int .i64 c, .int .i64 d] 44)).mono b1.size)); have G1 := h_ (AB.at0 w1 44 [.bool z, .int .i64 c, .int .i64 d]); clear h1 b1) | (go_at_call 22; refine (qr.out _ (HB.out.later k1.out)).mono ?_; rintro e w2 ⟨⟨s2, c2, rfl, h2⟩, b2⟩; have j2 := b2.trans ((below1 w2 (.cells #[.bool z, .int .i64 c, .int .i64 d] 44)).mono b2.size); have H2 := h_ (h2.later (below1 w2 (.cells #[.bool z, .int .i64 c, .int .i64 d] 44))); have H1 := h_ (H1.out.later j2); have k2 := h_ (k1.out.trans (j2.mono k1.out.size)); have G1 := h_ (G1.out.later j2); have G2 := h_ (AB.at0 w2 44 [.bool z, .int .i64 c, .int .i64 d]); clear h2 b2 j2) | (go_at_call 14; refine (qs.out _ _ _ H1.out H2.out).mono ?_; rintro e w3 ⟨rfl, b3⟩; have k3 := h_ (k2.out.trans (b3.mono k2.out.size)); obtain ⟨f0, f1, f2, -⟩ := (G1.out.later b3).three; obtain ⟨t0, t1, t2, -⟩ := (G2.out.later b3).three) | (go_at_call 8; refine (awake22_any _).mono ?_; rintro e w9 ⟨rfl, b9⟩))
  go_ret
  exact ⟨by first | rfl | simp, k3.out.trans (b9.mono k3.out.size)⟩
theorem idc_dark (ao : Option Addr) (cap m : Nat) (w : World) (hm : m ≤ 9223372036854775807) (h7 : 4000 < m) :
    Calls Tryz.prog 4 #[.slice ao m cap] w fun e w' => e = .returned (.bool true) ∧ Below w.heap.size w w' := by
  have h7' : (4000 : Int) < (m : Int) := by omega
  clear h7
  go_enter Tryz.func4, Tryz.ntmps4
  go_wp2_with (go_at_call 8; refine (awake22_any _).mono ?_; rintro e w9 ⟨rfl, b9⟩)
  go_ret
  exact ⟨rfl, b9⟩
theorem instDecodes_walk (v : Value) (m : List Int) (w : World) (hB : Bytes w v m) :
    Calls Tryz.prog 4 #[v] w fun e w' => e = .returned (.bool true) ∧ Below w.heap.size w w' := by
  have hm := hmC2 hB
  have hi := hB.isB_
  obtain ⟨ao, cap, rfl⟩ := hB.short
  by_cases h7 : m.length ≤ 4000
  · rcases insts_all _ [] m (Nat.le_refl _) hi with ⟨Os, h1, h2⟩ | ⟨c, d, h1, h2⟩
    · refine idc_go ao cap m Os false 0 0 w hB h7 (fun W h => (id_ok _ m Os W h h1).mono ?_) (fun W h => (rid_ok _ m Os W h (by omega) h2).mono ?_)
      · rintro e w' ⟨⟨r, rfl, hI⟩, hb⟩
        obtain ⟨s, cc, rfl⟩ := inst_form hI
        exact ⟨⟨s, cc, rfl, hI⟩, hb⟩
      · rintro e w' ⟨⟨r, rfl, hI⟩, hb⟩
        obtain ⟨s, cc, rfl⟩ := inst_form hI
        exact ⟨⟨s, cc, rfl, hI⟩, hb⟩
    · refine idc_go ao cap m [] true c d w hB h7 (fun W h => (id_bad _ m c d W h h1).mono ?_) (fun W h => (rid_bad _ m c d W h (by omega) h2).mono ?_)
      · rintro e w' ⟨rfl, hb⟩
        exact ⟨⟨none, 0, rfl, InstAt.nil _⟩, hb⟩
      · rintro e w' ⟨rfl, hb⟩
        exact ⟨⟨none, 0, rfl, InstAt.nil _⟩, hb⟩
  · exact idc_dark ao cap m.length w hm (by omega)
end Go.Proofs.YthhijfphfcmniaaGreat
