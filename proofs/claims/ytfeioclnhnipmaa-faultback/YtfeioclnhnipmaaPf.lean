import Derived.Test.YtfeioclnhnipmaaPe
import Derived.Test.YtfeioclnhnipmaaNi
import Derived.Deep.RegionHeld3
import Derived.Deep.RegionWith
import Derived.Deep.MidRow
import Derived.Deep.Cut
namespace Go.Proofs.Ytfeioclnhnipmaa
open Go Go.RowKit
set_option linter.unusedVariables false
set_option linter.unusedSimpArgs false

theorem lit8_isB : isB [4, 2, 0, 8, 0, 0, 0, 7] := by intro z hz; simp at hz; omega
theorem lit5_isB : isB [0, 1, 0, 6, 9] := by intro z hz; simp at hz; omega
theorem lit1_isB : isB [9] := by intro z hz; simp at hz; omega
def R20 : List Int := replyF 1 6 [4, 2, 0, 8, 0, 0, 0, 7]
theorem r20_len : R20.length = 20 := rfl
theorem r20_7 : R20[7]? = some 7 := rfl
set_option maxRecDepth 100000 in
set_option maxHeartbeats 8000000 in
theorem awake19_any (w : World) : Calls Try.prog 6 #[] w fun e w' => e = .returned (.bool true) ∧ Below w.heap.size w w' := by
  have qr : Hid (∀ W, Calls Try.prog 8 #[.agg #[.bool true, .int .i64 1, .int .i64 6], .slice (some ⟨W.heap.size, 0, none⟩) 8 8] (W.alloc (.cells #[.int .u8 4, .int .u8 2, .int .u8 0, .int .u8 8, .int .u8 0, .int .u8 0, .int .u8 0, .int .u8 7] 5)) fun e w' => ∃ g off cc, e = .returned (.slice (some ⟨g, off, none⟩) 20 cc) ∧ Bytes w' (.slice (some ⟨g, off, none⟩) 20 cc) R20 ∧ Below W.heap.size W w') := hide_ (fun W => (freply_yes true 1 6 (.slice (some ⟨W.heap.size, 0, none⟩) 8 8) [4, 2, 0, 8, 0, 0, 0, 7] (W.alloc (.cells #[.int .u8 4, .int .u8 2, .int .u8 0, .int .u8 8, .int .u8 0, .int .u8 0, .int .u8 0, .int .u8 7] 5)) (Bytes.lit W [4, 2, 0, 8, 0, 0, 0, 7] 5 lit8_isB (by decide)) (by decide)).mono (by
    rintro e w' ⟨a, cc, rfl, o, b⟩
    have h := Bytes.ofOwn (l := R20) o (replyF_isB (by decide) (by decide) lit8_isB)
    have h : Bytes w' (.slice a 20 cc) R20 := h
    obtain ⟨-, -, -, hc⟩ := h.at
    obtain ⟨g, off, rfl, -⟩ := hc 7 7 r20_7
    exact ⟨g, off, cc, rfl, h, (below1 W (.cells #[.int .u8 4, .int .u8 2, .int .u8 0, .int .u8 8, .int .u8 0, .int .u8 0, .int .u8 0, .int .u8 7] 5)).trans (b.mono (below1 W (.cells #[.int .u8 4, .int .u8 2, .int .u8 0, .int .u8 8, .int .u8 0, .int .u8 0, .int .u8 0, .int .u8 7] 5)).size)⟩))
  have qp : Hid (∀ W, Calls Try.prog 14 #[.slice (some ⟨W.heap.size, 0, none⟩) 5 5] (W.alloc (.cells #[.int .u8 0, .int .u8 1, .int .u8 0, .int .u8 6, .int .u8 9] 5)) fun e w' => ∃ a c, e = .returned (.tuple #[.agg #[.bool true, .int .i64 1, .int .i64 6], .slice a 1 c, .bool true]) ∧ Bytes w' (.slice a 1 c) [9] ∧ Below W.heap.size W w') := hide_ (fun W => (fparse_ok (.slice (some ⟨W.heap.size, 0, none⟩) 5 5) [0, 1, 0, 6, 9] (W.alloc (.cells #[.int .u8 0, .int .u8 1, .int .u8 0, .int .u8 6, .int .u8 9] 5)) (Bytes.lit W [0, 1, 0, 6, 9] 5 lit5_isB (by decide)) (by decide) (by decide)).mono (by
    rintro e w' ⟨a, c, rfl, h, b⟩
    exact ⟨a, c, rfl, h, (below1 W (.cells #[.int .u8 0, .int .u8 1, .int .u8 0, .int .u8 6, .int .u8 9] 5)).trans (b.mono (below1 W (.cells #[.int .u8 0, .int .u8 1, .int .u8 0, .int .u8 6, .int .u8 9] 5)).size)⟩))
  have qn : Hid (∀ W, Calls Try.prog 12 #[.agg #[.bool true, .int .i64 1, .int .i64 6]] W fun e w' => e = .returned (.string { data := #[98, 97, 100, 32, 114, 101, 113, 117, 101, 115, 116] }) ∧ Below W.heap.size W w') := hide_ (fun W => fname_any true 1 6 W)
  have LIT : Hid (∀ W : World, Bytes (W.alloc (.cells #[.int .u8 9] 5)) (.slice (some ⟨W.heap.size, 0, none⟩) 1 1) [9]) := hide_ (fun (W : World) => Bytes.lit W [9] 5 lit1_isB (by decide))
  go_enter Try.func6, Try.ntmps6
  go_upto_region 3 with (first
    | (go_at_call 10; refine (fof_any 1 6 _).mono ?_; rintro e w1 ⟨rfl, b1⟩; have k1 := hide_ b1; clear b1)
    | (go_at_call 8; refine (qr.out _).mono ?_; rintro e w2 ⟨g2, o2, c2, rfl, h2, b2⟩; have h2 := hide_ h2; have k2 := hide_ (k1.out.trans (b2.mono k1.out.size)); clear b2)
    | (go_at_call 14; refine (qp.out _).mono ?_; rintro e w3 ⟨a3, c3, rfl, h3, b3⟩; have h2 := hide_ (h2.out.later b3); have h3 := hide_ h3; have k3 := hide_ (k2.out.trans (b3.mono k2.out.size)); clear b3))
  have A3 := hide_ (AB.at0 w3 23 [.bool true, .int .i64 1, .int .i64 6])
  have b4 := below1 w3 (.cells #[.bool true, .int .i64 1, .int .i64 6] 23)
  have k4 := hide_ (k3.out.trans (b4.mono k3.out.size))
  have h2 := hide_ (h2.out.later b4)
  have h3 := hide_ (h3.out.later b4)
  clear b4
  generalize w3.alloc (.cells #[.bool true, .int .i64 1, .int .i64 6] 23) = w4 at *
  obtain ⟨x0, x1, x2, -⟩ := A3.out.three
  have hc : w4.cell? ⟨g2, o2 + 7, none⟩ = some (.int .u8 7) := by
    obtain ⟨-, -, -, hc⟩ := h2.out.at
    obtain ⟨g, off, e, h⟩ := hc 7 7 r20_7
    cases e
    exact h
  go_wp2_with (first
    | (go_at_call 7; refine (bequal_any _ _ [9] [9] _ (h3.out.later (below1 _ _)) (LIT.out w4)).mono ?_; rintro e w9 ⟨rfl, e9⟩; have e9 := e9.symm; subst e9; obtain ⟨y0, y1, y2, -⟩ := (A3.out.alloc (.cells #[.int .u8 9] 5)).three)
    | (go_at_call 12; refine (qn.out _).mono ?_; rintro e w6 ⟨rfl, b6⟩; have k6 := hide_ ((k4.out.trans ((below1 w4 (.cells #[.int .u8 9] 5)).mono k4.out.size)).trans (b6.mono (k4.out.trans ((below1 w4 (.cells #[.int .u8 9] 5)).mono k4.out.size)).size)); clear b6))
  go_ret
  exact ⟨rfl, k6.out⟩

end Go.Proofs.Ytfeioclnhnipmaa
