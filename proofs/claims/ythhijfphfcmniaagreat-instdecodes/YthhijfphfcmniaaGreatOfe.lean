import Derived.Test.YthhijfphfcmniaaGreatOae
import Derived.Deep.RegionHeld3
import Derived.Deep.RegionWith
import Derived.Deep.MidRow
import Derived.Deep.Cut
set_option maxRecDepth 100000
set_option maxHeartbeats 8000000
set_option linter.unusedVariables false
set_option linter.unusedSimpArgs false
namespace Go.Proofs.YthhijfphfcmniaaGreat
open Go Go.RowKit
theorem oret2 {a b : Bool} (h : a = b) : Ending.returned (.bool a) = .returned (.bool b) := by rw [h]
theorem roright_any (f : Int) (m : Bool) (a b c d : Nat) (w : World) (ha : a < 18446744073709551616) (hb : b < 18446744073709551616) (hc : c < 18446744073709551616) (hd : d < 18446744073709551616) :
    Calls Tryz.prog 132 #[ov f m a b c d] w fun e w' => e = .returned (.bool (rgt f m a b c d)) ∧ Below w.heap.size w w' := by
  have A0 := h_ (AB.at0 w 59 [.int .i64 f, .bool m, .int .u64 (a : Int), .int .u64 (b : Int), .int .u64 (c : Int), .int .u64 (d : Int)])
  have B0 := h_ (below1 w (.cells #[.int .i64 f, .bool m, .int .u64 (a : Int), .int .u64 (b : Int), .int .u64 (c : Int), .int .u64 (d : Int)] 59))
  have q1 := h_ (fun w => rfright_any f w)
  have q2 := h_ (fun w => rfbits_any f w)
  have q3 := h_ (fun w => rlowf f w)
  have q4 := h_ (fun w => rless_any a b (LH f) (LL f) w ha hb (LH_lt f) (LL_lt f))
  have q5 : Hid (∀ w, Calls Tryz.prog 87 #[wd (andn a (LH f)) (andn b (LL f))] w fun e w' => e = .returned (.bool (wi a b (LH f) (LL f))) ∧ Below w.heap.size w w') := h_ (fun w => rzero_any (andn a (LH f)) (andn b (LL f)) w)
  have q6 : Hid (∀ w, Calls Tryz.prog 87 #[wd c d] w fun e w' => e = .returned (.bool (zz c d)) ∧ Below w.heap.size w w') := h_ (fun w => rzero_any c d w)
  have q7 := h_ (fun w => rfmask_any f w)
  have q8 := h_ (fun w => rless_any c d (LH f) (LL f) w hc hd (LH_lt f) (LL_lt f))
  have q9 : Hid (∀ w, Calls Tryz.prog 87 #[wd (andn c (LH f)) (andn d (LL f))] w fun e w' => e = .returned (.bool (wi c d (LH f) (LL f))) ∧ Below w.heap.size w w') := h_ (fun w => rzero_any (andn c (LH f)) (andn d (LL f)) w)
  have qa := h_ (fun w => rless_any a b c d w ha hb hc hd)
  have qb : Hid (∀ w, Calls Tryz.prog 87 #[wd (andn a c) (andn b d)] w fun e w' => e = .returned (.bool (wi a b c d)) ∧ Below w.heap.size w w') := h_ (fun w => rzero_any (andn a c) (andn b d) w)
  obtain ⟨R, hR⟩ : ∃ R, rgt f m a b c d = R := ⟨_, rfl⟩
  rw [hR]
  unfold rgt chk at hR
  have HR := h_ hR
  clear hR
  generalize fok f = zf at *
  generalize fmask f = zm at *
  generalize wi a b (LH f) (LL f) = z1 at *
  generalize wi c d (LH f) (LL f) = z2 at *
  generalize wi a b c d = z4 at *
  generalize zz c d = z3 at *
  generalize andn a (LH f) = u1 at *
  generalize andn b (LL f) = u2 at *
  generalize andn c (LH f) = u3 at *
  generalize andn d (LL f) = u4 at *
  generalize andn a c = u5 at *
  generalize andn b d = u6 at *
  generalize LH f = p1 at *
  generalize LL f = p2 at *
  generalize ((fbits f : Nat) : Int) = n at *
  clear ha hb hc hd
  obtain ⟨c0, c1, c2, c3, c4, c5, -⟩ := A0.out.six
  unfold ov wd at *
  cases zf
  · go_enter Tryz.func132, Tryz.ntmps132
    go_wp2_with (first | (go_at_call 151; refine (q1.out _).mono ?_; rintro e w1 ⟨rfl, rfl⟩))
    go_ret
    exact ⟨oret2 (by rw [← HR.out]; first | rfl | (cases z2 <;> rfl) | (cases z2 <;> cases z4 <;> rfl)), B0.out⟩
  · cases z1
    · go_enter Tryz.func132, Tryz.ntmps132
      go_wp2_with (first | (go_at_call 151; refine (q1.out _).mono ?_; rintro e w1 ⟨rfl, rfl⟩) | (go_at_call 153; refine (q2.out _).mono ?_; rintro e w2 ⟨rfl, rfl⟩) | (go_at_call 152; refine (q3.out _).mono ?_; rintro e w3 ⟨rfl, b3⟩; have k3 := b3.trans ((below1 w3 (.cells #[.int .u64 (p1 : Int), .int .u64 (p2 : Int)] 31)).mono b3.size); have P3 := h_ (AB.at0 w3 31 [.int .u64 (p1 : Int), .int .u64 (p2 : Int)]); have A3 := h_ (A0.out.later k3); obtain ⟨x0, x1, -⟩ := P3.out.two; obtain ⟨y0, y1, y2, y3, y4, y5, -⟩ := A3.out.six) | (go_at_call_of 88 (Value.int IntKind.u64 (a : Int)); refine (q4.out _).mono ?_; rintro e w4 ⟨rfl, b4⟩; have k4 := b4; obtain ⟨x40, x41, -⟩ := (P3.out.later k4).two; obtain ⟨y40, y41, y42, y43, y44, y45, -⟩ := (A3.out.later k4).six) | (go_at_call_of 87 (Value.int IntKind.u64 (u1 : Int)); refine (q5.out _).mono ?_; rintro e w5 ⟨rfl, b5⟩; have k5 := k4.trans (b5.mono k4.size); obtain ⟨x50, x51, -⟩ := (P3.out.later k5).two; obtain ⟨y50, y51, y52, y53, y54, y55, -⟩ := (A3.out.later k5).six))
      go_ret
      exact ⟨oret2 (by rw [← HR.out]; first | rfl | (cases z2 <;> rfl) | (cases z2 <;> cases z4 <;> rfl)), B0.out.trans ((k3.trans (k5.mono k3.size)).mono B0.out.size)⟩
    · cases m
      · cases z3
        · go_enter Tryz.func132, Tryz.ntmps132
          go_wp2_with (first | (go_at_call 151; refine (q1.out _).mono ?_; rintro e w1 ⟨rfl, rfl⟩) | (go_at_call 153; refine (q2.out _).mono ?_; rintro e w2 ⟨rfl, rfl⟩) | (go_at_call 152; refine (q3.out _).mono ?_; rintro e w3 ⟨rfl, b3⟩; have k3 := b3.trans ((below1 w3 (.cells #[.int .u64 (p1 : Int), .int .u64 (p2 : Int)] 31)).mono b3.size); have P3 := h_ (AB.at0 w3 31 [.int .u64 (p1 : Int), .int .u64 (p2 : Int)]); have A3 := h_ (A0.out.later k3); obtain ⟨x0, x1, -⟩ := P3.out.two; obtain ⟨y0, y1, y2, y3, y4, y5, -⟩ := A3.out.six) | (go_at_call_of 88 (Value.int IntKind.u64 (a : Int)); refine (q4.out _).mono ?_; rintro e w4 ⟨rfl, b4⟩; have k4 := b4; obtain ⟨x40, x41, -⟩ := (P3.out.later k4).two; obtain ⟨y40, y41, y42, y43, y44, y45, -⟩ := (A3.out.later k4).six) | (go_at_call_of 87 (Value.int IntKind.u64 (u1 : Int)); refine (q5.out _).mono ?_; rintro e w5 ⟨rfl, b5⟩; have k5 := k4.trans (b5.mono k4.size); obtain ⟨x50, x51, -⟩ := (P3.out.later k5).two; obtain ⟨y50, y51, y52, y53, y54, y55, -⟩ := (A3.out.later k5).six) | (go_at_call_of 87 (Value.int IntKind.u64 (c : Int)); refine (q6.out _).mono ?_; rintro e w6 ⟨rfl, b6⟩; have k6 := k5.trans (b6.mono k5.size); obtain ⟨x60, x61, -⟩ := (P3.out.later k6).two; obtain ⟨y60, y61, y62, y63, y64, y65, -⟩ := (A3.out.later k6).six))
          go_ret
          exact ⟨oret2 (by rw [← HR.out]; first | rfl | (cases z2 <;> rfl) | (cases z2 <;> cases z4 <;> rfl)), B0.out.trans ((k3.trans (k6.mono k3.size)).mono B0.out.size)⟩
        · go_enter Tryz.func132, Tryz.ntmps132
          go_wp2_with (first | (go_at_call 151; refine (q1.out _).mono ?_; rintro e w1 ⟨rfl, rfl⟩) | (go_at_call 153; refine (q2.out _).mono ?_; rintro e w2 ⟨rfl, rfl⟩) | (go_at_call 152; refine (q3.out _).mono ?_; rintro e w3 ⟨rfl, b3⟩; have k3 := b3.trans ((below1 w3 (.cells #[.int .u64 (p1 : Int), .int .u64 (p2 : Int)] 31)).mono b3.size); have P3 := h_ (AB.at0 w3 31 [.int .u64 (p1 : Int), .int .u64 (p2 : Int)]); have A3 := h_ (A0.out.later k3); obtain ⟨x0, x1, -⟩ := P3.out.two; obtain ⟨y0, y1, y2, y3, y4, y5, -⟩ := A3.out.six) | (go_at_call_of 88 (Value.int IntKind.u64 (a : Int)); refine (q4.out _).mono ?_; rintro e w4 ⟨rfl, b4⟩; have k4 := b4; obtain ⟨x40, x41, -⟩ := (P3.out.later k4).two; obtain ⟨y40, y41, y42, y43, y44, y45, -⟩ := (A3.out.later k4).six) | (go_at_call_of 87 (Value.int IntKind.u64 (u1 : Int)); refine (q5.out _).mono ?_; rintro e w5 ⟨rfl, b5⟩; have k5 := k4.trans (b5.mono k4.size); obtain ⟨x50, x51, -⟩ := (P3.out.later k5).two; obtain ⟨y50, y51, y52, y53, y54, y55, -⟩ := (A3.out.later k5).six) | (go_at_call_of 87 (Value.int IntKind.u64 (c : Int)); refine (q6.out _).mono ?_; rintro e w6 ⟨rfl, b6⟩; have k6 := k5.trans (b6.mono k5.size); obtain ⟨x60, x61, -⟩ := (P3.out.later k6).two; obtain ⟨y60, y61, y62, y63, y64, y65, -⟩ := (A3.out.later k6).six))
          go_ret
          exact ⟨oret2 (by rw [← HR.out]; first | rfl | (cases z2 <;> rfl) | (cases z2 <;> cases z4 <;> rfl)), B0.out.trans ((k3.trans (k6.mono k3.size)).mono B0.out.size)⟩
      · cases zm
        · have e0 : ∀ x : Bool, (x && false) = false := fun x => by cases x <;> rfl
          go_enter Tryz.func132, Tryz.ntmps132
          go_wp2_with (first | (go_at_call 151; refine (q1.out _).mono ?_; rintro e w1 ⟨rfl, rfl⟩) | (go_at_call 153; refine (q2.out _).mono ?_; rintro e w2 ⟨rfl, rfl⟩) | (go_at_call 152; refine (q3.out _).mono ?_; rintro e w3 ⟨rfl, b3⟩; have k3 := b3.trans ((below1 w3 (.cells #[.int .u64 (p1 : Int), .int .u64 (p2 : Int)] 31)).mono b3.size); have P3 := h_ (AB.at0 w3 31 [.int .u64 (p1 : Int), .int .u64 (p2 : Int)]); have A3 := h_ (A0.out.later k3); obtain ⟨x0, x1, -⟩ := P3.out.two; obtain ⟨y0, y1, y2, y3, y4, y5, -⟩ := A3.out.six) | (go_at_call_of 88 (Value.int IntKind.u64 (a : Int)); refine (q4.out _).mono ?_; rintro e w4 ⟨rfl, b4⟩; have k4 := b4; obtain ⟨x40, x41, -⟩ := (P3.out.later k4).two; obtain ⟨y40, y41, y42, y43, y44, y45, -⟩ := (A3.out.later k4).six) | (go_at_call_of 87 (Value.int IntKind.u64 (u1 : Int)); refine (q5.out _).mono ?_; rintro e w5 ⟨rfl, b5⟩; have k5 := k4.trans (b5.mono k4.size); obtain ⟨x50, x51, -⟩ := (P3.out.later k5).two; obtain ⟨y50, y51, y52, y53, y54, y55, -⟩ := (A3.out.later k5).six) | (go_at_call 154; refine (q7.out _).mono ?_; rintro e wm ⟨rfl, rfl⟩))
          go_ret
          exact ⟨oret2 (by rw [← HR.out]; simp), B0.out.trans ((k3.trans (k5.mono k3.size)).mono B0.out.size)⟩
        · cases z3
          · cases z2
            · go_enter Tryz.func132, Tryz.ntmps132
              go_wp2_with (first | (go_at_call 151; refine (q1.out _).mono ?_; rintro e w1 ⟨rfl, rfl⟩) | (go_at_call 153; refine (q2.out _).mono ?_; rintro e w2 ⟨rfl, rfl⟩) | (go_at_call 152; refine (q3.out _).mono ?_; rintro e w3 ⟨rfl, b3⟩; have k3 := b3.trans ((below1 w3 (.cells #[.int .u64 (p1 : Int), .int .u64 (p2 : Int)] 31)).mono b3.size); have P3 := h_ (AB.at0 w3 31 [.int .u64 (p1 : Int), .int .u64 (p2 : Int)]); have A3 := h_ (A0.out.later k3); obtain ⟨x0, x1, -⟩ := P3.out.two; obtain ⟨y0, y1, y2, y3, y4, y5, -⟩ := A3.out.six) | (go_at_call_of 88 (Value.int IntKind.u64 (a : Int)); refine (q4.out _).mono ?_; rintro e w4 ⟨rfl, b4⟩; have k4 := b4; obtain ⟨x40, x41, -⟩ := (P3.out.later k4).two; obtain ⟨y40, y41, y42, y43, y44, y45, -⟩ := (A3.out.later k4).six) | (go_at_call_of 87 (Value.int IntKind.u64 (u1 : Int)); refine (q5.out _).mono ?_; rintro e w5 ⟨rfl, b5⟩; have k5 := k4.trans (b5.mono k4.size); obtain ⟨x50, x51, -⟩ := (P3.out.later k5).two; obtain ⟨y50, y51, y52, y53, y54, y55, -⟩ := (A3.out.later k5).six) | (go_at_call 154; refine (q7.out _).mono ?_; rintro e wm ⟨rfl, rfl⟩) | (go_at_call_of 87 (Value.int IntKind.u64 (c : Int)); refine (q6.out _).mono ?_; rintro e w6 ⟨rfl, b6⟩; have k6 := k5.trans (b6.mono k5.size); obtain ⟨x60, x61, -⟩ := (P3.out.later k6).two; obtain ⟨y60, y61, y62, y63, y64, y65, -⟩ := (A3.out.later k6).six) | (go_at_call_of 88 (Value.int IntKind.u64 (c : Int)); refine (q8.out _).mono ?_; rintro e w7 ⟨rfl, b7⟩; have k7 := k6.trans (b7.mono k6.size); obtain ⟨x70, x71, -⟩ := (P3.out.later k7).two; obtain ⟨y70, y71, y72, y73, y74, y75, -⟩ := (A3.out.later k7).six) | (go_at_call_of 87 (Value.int IntKind.u64 (u3 : Int)); refine (q9.out _).mono ?_; rintro e w8 ⟨rfl, b8⟩; have k8 := k7.trans (b8.mono k7.size); obtain ⟨x80, x81, -⟩ := (P3.out.later k8).two; obtain ⟨y80, y81, y82, y83, y84, y85, -⟩ := (A3.out.later k8).six))
              go_ret
              exact ⟨oret2 (by rw [← HR.out]; first | rfl | (cases z2 <;> rfl) | (cases z2 <;> cases z4 <;> rfl)), B0.out.trans ((k3.trans (k8.mono k3.size)).mono B0.out.size)⟩
            · cases z4
              · go_enter Tryz.func132, Tryz.ntmps132
                go_wp2_with (first | (go_at_call 151; refine (q1.out _).mono ?_; rintro e w1 ⟨rfl, rfl⟩) | (go_at_call 153; refine (q2.out _).mono ?_; rintro e w2 ⟨rfl, rfl⟩) | (go_at_call 152; refine (q3.out _).mono ?_; rintro e w3 ⟨rfl, b3⟩; have k3 := b3.trans ((below1 w3 (.cells #[.int .u64 (p1 : Int), .int .u64 (p2 : Int)] 31)).mono b3.size); have P3 := h_ (AB.at0 w3 31 [.int .u64 (p1 : Int), .int .u64 (p2 : Int)]); have A3 := h_ (A0.out.later k3); obtain ⟨x0, x1, -⟩ := P3.out.two; obtain ⟨y0, y1, y2, y3, y4, y5, -⟩ := A3.out.six) | ((go_at_call_of 88 (Value.int IntKind.u64 (a : Int)); go_at_call_of 88 (Value.int IntKind.u64 (p1 : Int))); refine (q4.out _).mono ?_; rintro e w4 ⟨rfl, b4⟩; have k4 := b4; obtain ⟨x40, x41, -⟩ := (P3.out.later k4).two; obtain ⟨y40, y41, y42, y43, y44, y45, -⟩ := (A3.out.later k4).six) | (go_at_call_of 87 (Value.int IntKind.u64 (u1 : Int)); refine (q5.out _).mono ?_; rintro e w5 ⟨rfl, b5⟩; have k5 := k4.trans (b5.mono k4.size); obtain ⟨x50, x51, -⟩ := (P3.out.later k5).two; obtain ⟨y50, y51, y52, y53, y54, y55, -⟩ := (A3.out.later k5).six) | (go_at_call 154; refine (q7.out _).mono ?_; rintro e wm ⟨rfl, rfl⟩) | (go_at_call_of 87 (Value.int IntKind.u64 (c : Int)); refine (q6.out _).mono ?_; rintro e w6 ⟨rfl, b6⟩; have k6 := k5.trans (b6.mono k5.size); obtain ⟨x60, x61, -⟩ := (P3.out.later k6).two; obtain ⟨y60, y61, y62, y63, y64, y65, -⟩ := (A3.out.later k6).six) | ((go_at_call_of 88 (Value.int IntKind.u64 (c : Int)); go_at_call_of 88 (Value.int IntKind.u64 (p1 : Int))); refine (q8.out _).mono ?_; rintro e w7 ⟨rfl, b7⟩; have k7 := k6.trans (b7.mono k6.size); obtain ⟨x70, x71, -⟩ := (P3.out.later k7).two; obtain ⟨y70, y71, y72, y73, y74, y75, -⟩ := (A3.out.later k7).six) | (go_at_call_of 87 (Value.int IntKind.u64 (u3 : Int)); refine (q9.out _).mono ?_; rintro e w8 ⟨rfl, b8⟩; have k8 := k7.trans (b8.mono k7.size); obtain ⟨x80, x81, -⟩ := (P3.out.later k8).two; obtain ⟨y80, y81, y82, y83, y84, y85, -⟩ := (A3.out.later k8).six) | ((go_at_call_of 88 (Value.int IntKind.u64 (a : Int)); go_at_call_of 88 (Value.int IntKind.u64 (c : Int))); refine (qa.out _).mono ?_; rintro e w9 ⟨rfl, b9⟩; have k9 := k8.trans (b9.mono k8.size); obtain ⟨x90, x91, -⟩ := (P3.out.later k9).two; obtain ⟨y90, y91, y92, y93, y94, y95, -⟩ := (A3.out.later k9).six) | (go_at_call_of 87 (Value.int IntKind.u64 (u5 : Int)); refine (qb.out _).mono ?_; rintro e w10 ⟨rfl, b10⟩; have k10 := k9.trans (b10.mono k9.size); obtain ⟨x100, x101, -⟩ := (P3.out.later k10).two; obtain ⟨y100, y101, y102, y103, y104, y105, -⟩ := (A3.out.later k10).six))
                go_ret
                exact ⟨oret2 (by rw [← HR.out]; first | rfl | (cases z2 <;> rfl) | (cases z2 <;> cases z4 <;> rfl)), B0.out.trans ((k3.trans (k10.mono k3.size)).mono B0.out.size)⟩
              · go_enter Tryz.func132, Tryz.ntmps132
                go_wp2_with (first | (go_at_call 151; refine (q1.out _).mono ?_; rintro e w1 ⟨rfl, rfl⟩) | (go_at_call 153; refine (q2.out _).mono ?_; rintro e w2 ⟨rfl, rfl⟩) | (go_at_call 152; refine (q3.out _).mono ?_; rintro e w3 ⟨rfl, b3⟩; have k3 := b3.trans ((below1 w3 (.cells #[.int .u64 (p1 : Int), .int .u64 (p2 : Int)] 31)).mono b3.size); have P3 := h_ (AB.at0 w3 31 [.int .u64 (p1 : Int), .int .u64 (p2 : Int)]); have A3 := h_ (A0.out.later k3); obtain ⟨x0, x1, -⟩ := P3.out.two; obtain ⟨y0, y1, y2, y3, y4, y5, -⟩ := A3.out.six) | ((go_at_call_of 88 (Value.int IntKind.u64 (a : Int)); go_at_call_of 88 (Value.int IntKind.u64 (p1 : Int))); refine (q4.out _).mono ?_; rintro e w4 ⟨rfl, b4⟩; have k4 := b4; obtain ⟨x40, x41, -⟩ := (P3.out.later k4).two; obtain ⟨y40, y41, y42, y43, y44, y45, -⟩ := (A3.out.later k4).six) | (go_at_call_of 87 (Value.int IntKind.u64 (u1 : Int)); refine (q5.out _).mono ?_; rintro e w5 ⟨rfl, b5⟩; have k5 := k4.trans (b5.mono k4.size); obtain ⟨x50, x51, -⟩ := (P3.out.later k5).two; obtain ⟨y50, y51, y52, y53, y54, y55, -⟩ := (A3.out.later k5).six) | (go_at_call 154; refine (q7.out _).mono ?_; rintro e wm ⟨rfl, rfl⟩) | (go_at_call_of 87 (Value.int IntKind.u64 (c : Int)); refine (q6.out _).mono ?_; rintro e w6 ⟨rfl, b6⟩; have k6 := k5.trans (b6.mono k5.size); obtain ⟨x60, x61, -⟩ := (P3.out.later k6).two; obtain ⟨y60, y61, y62, y63, y64, y65, -⟩ := (A3.out.later k6).six) | ((go_at_call_of 88 (Value.int IntKind.u64 (c : Int)); go_at_call_of 88 (Value.int IntKind.u64 (p1 : Int))); refine (q8.out _).mono ?_; rintro e w7 ⟨rfl, b7⟩; have k7 := k6.trans (b7.mono k6.size); obtain ⟨x70, x71, -⟩ := (P3.out.later k7).two; obtain ⟨y70, y71, y72, y73, y74, y75, -⟩ := (A3.out.later k7).six) | (go_at_call_of 87 (Value.int IntKind.u64 (u3 : Int)); refine (q9.out _).mono ?_; rintro e w8 ⟨rfl, b8⟩; have k8 := k7.trans (b8.mono k7.size); obtain ⟨x80, x81, -⟩ := (P3.out.later k8).two; obtain ⟨y80, y81, y82, y83, y84, y85, -⟩ := (A3.out.later k8).six) | ((go_at_call_of 88 (Value.int IntKind.u64 (a : Int)); go_at_call_of 88 (Value.int IntKind.u64 (c : Int))); refine (qa.out _).mono ?_; rintro e w9 ⟨rfl, b9⟩; have k9 := k8.trans (b9.mono k8.size); obtain ⟨x90, x91, -⟩ := (P3.out.later k9).two; obtain ⟨y90, y91, y92, y93, y94, y95, -⟩ := (A3.out.later k9).six) | (go_at_call_of 87 (Value.int IntKind.u64 (u5 : Int)); refine (qb.out _).mono ?_; rintro e w10 ⟨rfl, b10⟩; have k10 := k9.trans (b10.mono k9.size); obtain ⟨x100, x101, -⟩ := (P3.out.later k10).two; obtain ⟨y100, y101, y102, y103, y104, y105, -⟩ := (A3.out.later k10).six))
                go_ret
                exact ⟨oret2 (by rw [← HR.out]; first | rfl | (cases z2 <;> rfl) | (cases z2 <;> cases z4 <;> rfl)), B0.out.trans ((k3.trans (k10.mono k3.size)).mono B0.out.size)⟩
          · go_enter Tryz.func132, Tryz.ntmps132
            go_wp2_with (first | (go_at_call 151; refine (q1.out _).mono ?_; rintro e w1 ⟨rfl, rfl⟩) | (go_at_call 153; refine (q2.out _).mono ?_; rintro e w2 ⟨rfl, rfl⟩) | (go_at_call 152; refine (q3.out _).mono ?_; rintro e w3 ⟨rfl, b3⟩; have k3 := b3.trans ((below1 w3 (.cells #[.int .u64 (p1 : Int), .int .u64 (p2 : Int)] 31)).mono b3.size); have P3 := h_ (AB.at0 w3 31 [.int .u64 (p1 : Int), .int .u64 (p2 : Int)]); have A3 := h_ (A0.out.later k3); obtain ⟨x0, x1, -⟩ := P3.out.two; obtain ⟨y0, y1, y2, y3, y4, y5, -⟩ := A3.out.six) | (go_at_call_of 88 (Value.int IntKind.u64 (a : Int)); refine (q4.out _).mono ?_; rintro e w4 ⟨rfl, b4⟩; have k4 := b4; obtain ⟨x40, x41, -⟩ := (P3.out.later k4).two; obtain ⟨y40, y41, y42, y43, y44, y45, -⟩ := (A3.out.later k4).six) | (go_at_call_of 87 (Value.int IntKind.u64 (u1 : Int)); refine (q5.out _).mono ?_; rintro e w5 ⟨rfl, b5⟩; have k5 := k4.trans (b5.mono k4.size); obtain ⟨x50, x51, -⟩ := (P3.out.later k5).two; obtain ⟨y50, y51, y52, y53, y54, y55, -⟩ := (A3.out.later k5).six) | (go_at_call 154; refine (q7.out _).mono ?_; rintro e wm ⟨rfl, rfl⟩) | (go_at_call_of 87 (Value.int IntKind.u64 (c : Int)); refine (q6.out _).mono ?_; rintro e w6 ⟨rfl, b6⟩; have k6 := k5.trans (b6.mono k5.size); obtain ⟨x60, x61, -⟩ := (P3.out.later k6).two; obtain ⟨y60, y61, y62, y63, y64, y65, -⟩ := (A3.out.later k6).six))
            go_ret
            exact ⟨oret2 (by rw [← HR.out]; first | rfl | (cases z2 <;> rfl) | (cases z2 <;> cases z4 <;> rfl)), B0.out.trans ((k3.trans (k6.mono k3.size)).mono B0.out.size)⟩
end Go.Proofs.YthhijfphfcmniaaGreat
