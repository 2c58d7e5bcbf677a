import Derived.Test.YthhijfphfcmniaaGreatOae
import Derived.Deep.RegionHeld3
import Derived.Deep.RegionWith
import Derived.Deep.MidRow
import Derived.Deep.Cut
set_option maxRecDepth 100000
set_option maxHeartbeats 8000000
set_option linter.unusedVariables false
set_option linter.unusedSimpArgs false
namespace Go.Proofs.YthhijfphfcmniaaGreat
open Go Go.RowKit
theorem rosame_any (f : Int) (m : Bool) (a b c d : Nat) (f2 : Int) (m2 : Bool) (a2 b2 c2 d2 : Nat) (w : World) :
    Calls Tryz.prog 136 #[ov f m a b c d, ov f2 m2 a2 b2 c2 d2] w fun e w' => e = .returned (.bool (decide ((f, m, a, b, c, d) = (f2, m2, a2, b2, c2, d2)))) ∧ Below w.heap.size w w' := by
  have A0 := (AB.at0 w 59 [.int .i64 f, .bool m, .int .u64 (a : Int), .int .u64 (b : Int), .int .u64 (c : Int), .int .u64 (d : Int)]).alloc (.cells #[.int .i64 f2, .bool m2, .int .u64 (a2 : Int), .int .u64 (b2 : Int), .int .u64 (c2 : Int), .int .u64 (d2 : Int)] 59)
  have H0 := AB.at1 w (.cells #[.int .i64 f, .bool m, .int .u64 (a : Int), .int .u64 (b : Int), .int .u64 (c : Int), .int .u64 (d : Int)] 59) 59 [.int .i64 f2, .bool m2, .int .u64 (a2 : Int), .int .u64 (b2 : Int), .int .u64 (c2 : Int), .int .u64 (d2 : Int)]
  have B0 := h_ (below2 w (.cells #[.int .i64 f, .bool m, .int .u64 (a : Int), .int .u64 (b : Int), .int .u64 (c : Int), .int .u64 (d : Int)] 59) (.cells #[.int .i64 f2, .bool m2, .int .u64 (a2 : Int), .int .u64 (b2 : Int), .int .u64 (c2 : Int), .int .u64 (d2 : Int)] 59))
  obtain ⟨c0, c1, c2', c3, c4, c5, -⟩ := A0.six
  obtain ⟨s0, s1, s2, s3, s4, s5, -⟩ := H0.six
  clear A0 H0
  unfold ov
  by_cases ef : f = f2
  · subst ef
    by_cases em : m = m2
    · subst em
      by_cases ea : a = a2
      · subst ea
        by_cases eb : b = b2
        · subst eb
          by_cases ec : c = c2
          · subst ec
            by_cases ed : d = d2
            · subst ed
              go_enter Tryz.func136, Tryz.ntmps136
              go_wp2_with fail
              go_ret
              exact ⟨by simp [*], B0.out⟩
            · have g : (((d : Nat) : Int) == (d2 : Int)) = false := by simp; omega
              go_enter Tryz.func136, Tryz.ntmps136
              go_wp2_with fail
              go_ret
              exact ⟨by simp [*], B0.out⟩
          · have g : (((c : Nat) : Int) == (c2 : Int)) = false := by simp; omega
            go_enter Tryz.func136, Tryz.ntmps136
            go_wp2_with fail
            go_ret
            exact ⟨by simp [*], B0.out⟩
        · have g : (((b : Nat) : Int) == (b2 : Int)) = false := by simp; omega
          go_enter Tryz.func136, Tryz.ntmps136
          go_wp2_with fail
          go_ret
          exact ⟨by simp [*], B0.out⟩
      · have g : (((a : Nat) : Int) == (a2 : Int)) = false := by simp; omega
        go_enter Tryz.func136, Tryz.ntmps136
        go_wp2_with fail
        go_ret
        exact ⟨by simp [*], B0.out⟩
    · have g : (m == m2) = false := by simpa using em
      go_enter Tryz.func136, Tryz.ntmps136
      go_wp2_with fail
      go_ret
      exact ⟨by simp [*], B0.out⟩
  · have g : (f == f2) = false := by simp; omega
    go_enter Tryz.func136, Tryz.ntmps136
    go_wp2_with fail
    go_ret
    exact ⟨by simp [*], B0.out⟩
end Go.Proofs.YthhijfphfcmniaaGreat
