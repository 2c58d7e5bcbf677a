import Derived.Test.YtabeahglfhhfmaaTf
namespace Go.Proofs.Ytabeahglfhhfmaa
open Go Go.RowKit
set_option linter.unusedVariables false
set_option linter.unusedSimpArgs false

/-- a half of a meet, where there is one -/
def mz (ok : Bool) (r : Nat) : Nat := match ok with | true => r | false => 0
theorem mz_lt (ok : Bool) (r : Nat) (h : r < 18446744073709551616) : mz ok r < 18446744073709551616 := by cases ok <;> simp [mz] <;> omega
def mok (a b c d a2 b2 c2 d2 : Nat) : Bool := ((a ^^^ a2) &&& (c &&& c2) == 0 && (b ^^^ b2) &&& (d &&& d2) == 0)
theorem tmeet_ok (a b c d a2 b2 c2 d2 : Nat) (w : World) (ha : a < 18446744073709551616) (hb : b < 18446744073709551616) (hc : c < 18446744073709551616) (hd : d < 18446744073709551616) (ha2 : a2 < 18446744073709551616) (hb2 : b2 < 18446744073709551616) (hc2 : c2 < 18446744073709551616) (hd2 : d2 < 18446744073709551616) :
    Calls Try.prog 9 #[td a b c d, td a2 b2 c2 d2] w fun e w' => e = .returned (.tuple #[td (mz (mok a b c d a2 b2 c2 d2) (a &&& c ||| a2 &&& c2)) (mz (mok a b c d a2 b2 c2 d2) (b &&& d ||| b2 &&& d2)) (mz (mok a b c d a2 b2 c2 d2) (c ||| c2)) (mz (mok a b c d a2 b2 c2 d2) (d ||| d2)), .bool (mok a b c d a2 b2 c2 d2)]) ∧ Below w.heap.size w w' := by
  refine (tmeet_any a b c d a2 b2 c2 d2 w ha hb hc hd ha2 hb2 hc2 hd2).mono fun e w' ⟨h, k⟩ => ⟨?_, k⟩
  rw [h]
  by_cases e : (a ^^^ a2) &&& (c &&& c2) = 0 ∧ (b ^^^ b2) &&& (d &&& d2) = 0
  · rw [if_pos e]
    have : mok a b c d a2 b2 c2 d2 = true := by unfold mok; simpa using e
    rw [this]; rfl
  · rw [if_neg e]
    have : mok a b c d a2 b2 c2 d2 = false := by unfold mok; simpa using e
    rw [this]; rfl
theorem rtmeet_ok (a b c d a2 b2 c2 d2 : Nat) (w : World) (ha : a < 18446744073709551616) (hb : b < 18446744073709551616) (hc : c < 18446744073709551616) (hd : d < 18446744073709551616) (ha2 : a2 < 18446744073709551616) (hb2 : b2 < 18446744073709551616) (hc2 : c2 < 18446744073709551616) (hd2 : d2 < 18446744073709551616) :
    Calls Try.prog 10 #[td a b c d, td a2 b2 c2 d2] w fun e w' => e = .returned (.tuple #[td (mz (mok a b c d a2 b2 c2 d2) (a &&& c ||| a2 &&& c2)) (mz (mok a b c d a2 b2 c2 d2) (b &&& d ||| b2 &&& d2)) (mz (mok a b c d a2 b2 c2 d2) (c ||| c2)) (mz (mok a b c d a2 b2 c2 d2) (d ||| d2)), .bool (mok a b c d a2 b2 c2 d2)]) ∧ Below w.heap.size w w' := by
  refine (rtmeet_any a b c d a2 b2 c2 d2 w ha hb hc hd ha2 hb2 hc2 hd2).mono fun e w' ⟨h, k⟩ => ⟨?_, k⟩
  rw [h]
  by_cases e : (a ^^^ a2) &&& (c &&& c2) = 0 ∧ (b ^^^ b2) &&& (d &&& d2) = 0
  · rw [if_pos e]
    have : mok a b c d a2 b2 c2 d2 = true := by unfold mok; simpa using e
    rw [this]; rfl
  · rw [if_neg e]
    have : mok a b c d a2 b2 c2 d2 = false := by unfold mok; simpa using e
    rw [this]; rfl
/-- what a tern has -/
def thz (a b c d x y : Nat) : Bool := (a ^^^ x) &&& c == 0 && (b ^^^ y) &&& d == 0
theorem meet_rel (a b c d a2 b2 c2 d2 x y : Nat) : (thz a b c d x y && thz a2 b2 c2 d2 x y) = (mok a b c d a2 b2 c2 d2 && thz (mz (mok a b c d a2 b2 c2 d2) (a &&& c ||| a2 &&& c2)) (mz (mok a b c d a2 b2 c2 d2) (b &&& d ||| b2 &&& d2)) (mz (mok a b c d a2 b2 c2 d2) (c ||| c2)) (mz (mok a b c d a2 b2 c2 d2) (d ||| d2)) x y) := by
  have h1 := tb_meet a c a2 c2 x
  have h2 := tb_meet b d b2 d2 y
  cases hm : mok a b c d a2 b2 c2 d2
  · rw [Bool.false_and]
    rw [Bool.eq_false_iff]
    intro h
    simp only [thz, Bool.and_eq_true, beq_iff_eq] at h
    have k1 := (h1.1 ⟨h.1.1, h.2.1⟩).1
    have k2 := (h2.1 ⟨h.1.2, h.2.2⟩).1
    unfold mok at hm
    rw [k1, k2] at hm
    cases hm
  · rw [Bool.true_and, Bool.eq_iff_iff]
    unfold mok at hm
    simp only [Bool.and_eq_true, beq_iff_eq] at hm
    simp only [thz, mz, Bool.and_eq_true, beq_iff_eq]
    constructor
    · rintro ⟨⟨p1, p2⟩, q1, q2⟩
      exact ⟨(h1.1 ⟨p1, q1⟩).2, (h2.1 ⟨p2, q2⟩).2⟩
    · rintro ⟨r1, r2⟩
      obtain ⟨p1, q1⟩ := h1.2 ⟨hm.1, r1⟩
      obtain ⟨p2, q2⟩ := h2.2 ⟨hm.2, r2⟩
      exact ⟨⟨p1, p2⟩, q1, q2⟩
theorem thas_z (a b c d x y : Nat) (w : World) (ha : a < 18446744073709551616) (hb : b < 18446744073709551616) (hc : c < 18446744073709551616) (hd : d < 18446744073709551616) (hx : x < 18446744073709551616) (hy : y < 18446744073709551616) :
    Calls Try.prog 11 #[td a b c d, wd x y] w fun e w' => e = .returned (.bool (thz a b c d x y)) ∧ Below w.heap.size w w' := thas_any a b c d x y w ha hb hc hd hx hy

set_option maxRecDepth 100000 in
set_option maxHeartbeats 4000000 in
theorem ternMeet_walk (a b c d a2 b2 c2 d2 x y : Nat) (w : World) (ha : a < 18446744073709551616) (hb : b < 18446744073709551616) (hc : c < 18446744073709551616) (hd : d < 18446744073709551616) (ha2 : a2 < 18446744073709551616) (hb2 : b2 < 18446744073709551616) (hc2 : c2 < 18446744073709551616) (hd2 : d2 < 18446744073709551616) (hx : x < 18446744073709551616) (hy : y < 18446744073709551616) :
    Calls Try.prog 4 #[td a b c d, td a2 b2 c2 d2, wd x y] w fun e w' => e = .returned (.bool true) ∧ Below w.heap.size w w' := by
  have q1 := hide_ (fun w => tmeet_ok a b c d a2 b2 c2 d2 w ha hb hc hd ha2 hb2 hc2 hd2)
  have q2 := hide_ (fun w => thas_z a b c d x y w ha hb hc hd hx hy)
  have q3 := hide_ (fun w => thas_z a2 b2 c2 d2 x y w ha2 hb2 hc2 hd2 hx hy)
  have q4 := hide_ (fun w => thas_z (mz (mok a b c d a2 b2 c2 d2) (a &&& c ||| a2 &&& c2)) (mz (mok a b c d a2 b2 c2 d2) (b &&& d ||| b2 &&& d2)) (mz (mok a b c d a2 b2 c2 d2) (c ||| c2)) (mz (mok a b c d a2 b2 c2 d2) (d ||| d2)) x y w (mz_lt _ _ (or_lt _ _ (and_lt _ _ ha) (and_lt _ _ ha2))) (mz_lt _ _ (or_lt _ _ (and_lt _ _ hb) (and_lt _ _ hb2))) (mz_lt _ _ (or_lt _ _ hc hc2)) (mz_lt _ _ (or_lt _ _ hd hd2)) hx hy)
  have rel := meet_rel a b c d a2 b2 c2 d2 x y
  generalize thz (mz (mok a b c d a2 b2 c2 d2) (a &&& c ||| a2 &&& c2)) (mz (mok a b c d a2 b2 c2 d2) (b &&& d ||| b2 &&& d2)) (mz (mok a b c d a2 b2 c2 d2) (c ||| c2)) (mz (mok a b c d a2 b2 c2 d2) (d ||| d2)) x y = zM at *
  generalize thz a b c d x y = zA at *
  generalize thz a2 b2 c2 d2 x y = zB at *
  generalize mz (mok a b c d a2 b2 c2 d2) (a &&& c ||| a2 &&& c2) = m1 at *
  generalize mz (mok a b c d a2 b2 c2 d2) (b &&& d ||| b2 &&& d2) = m2 at *
  generalize mz (mok a b c d a2 b2 c2 d2) (c ||| c2) = m3 at *
  generalize mz (mok a b c d a2 b2 c2 d2) (d ||| d2) = m4 at *
  generalize mok a b c d a2 b2 c2 d2 = ok at *
  clear ha hb hc hd ha2 hb2 hc2 hd2 hx hy
  unfold td at *
  unfold wd at *
  have HA := hide_ (((AB.at0 w 26 [.int .u64 (a : Int), .int .u64 (b : Int), .int .u64 (c : Int), .int .u64 (d : Int)]).alloc (.cells #[.int .u64 (a2 : Int), .int .u64 (b2 : Int), .int .u64 (c2 : Int), .int .u64 (d2 : Int)] 26)).alloc (.cells #[.int .u64 (x : Int), .int .u64 (y : Int)] 24))
  have HC := hide_ ((AB.at1 w (.cells #[.int .u64 (a : Int), .int .u64 (b : Int), .int .u64 (c : Int), .int .u64 (d : Int)] 26) 26 [.int .u64 (a2 : Int), .int .u64 (b2 : Int), .int .u64 (c2 : Int), .int .u64 (d2 : Int)]).alloc (.cells #[.int .u64 (x : Int), .int .u64 (y : Int)] 24))
  have HV := hide_ (AB.at2 w (.cells #[.int .u64 (a : Int), .int .u64 (b : Int), .int .u64 (c : Int), .int .u64 (d : Int)] 26) (.cells #[.int .u64 (a2 : Int), .int .u64 (b2 : Int), .int .u64 (c2 : Int), .int .u64 (d2 : Int)] 26) 24 [.int .u64 (x : Int), .int .u64 (y : Int)])
  have HB := hide_ (below3 w (.cells #[.int .u64 (a : Int), .int .u64 (b : Int), .int .u64 (c : Int), .int .u64 (d : Int)] 26) (.cells #[.int .u64 (a2 : Int), .int .u64 (b2 : Int), .int .u64 (c2 : Int), .int .u64 (d2 : Int)] 26) (.cells #[.int .u64 (x : Int), .int .u64 (y : Int)] 24))
  cases ok <;> cases zA <;> cases zB <;> cases zM <;> first | (exfalso; revert rel; decide) | skip
  all_goals
    clear rel
    go_enter Try.func4, Try.ntmps4
    go_wp2_with fail
    refine (q1.out _).mono ?_
    rintro e w1 ⟨rfl, b1⟩
    have A1 := (HA.out.later b1).alloc (.cells #[.int .u64 (m1 : Int), .int .u64 (m2 : Int), .int .u64 (m3 : Int), .int .u64 (m4 : Int)] 26)
    have C1 := (HC.out.later b1).alloc (.cells #[.int .u64 (m1 : Int), .int .u64 (m2 : Int), .int .u64 (m3 : Int), .int .u64 (m4 : Int)] 26)
    have V1 := (HV.out.later b1).alloc (.cells #[.int .u64 (m1 : Int), .int .u64 (m2 : Int), .int .u64 (m3 : Int), .int .u64 (m4 : Int)] 26)
    have M1 := AB.at0 w1 26 [.int .u64 (m1 : Int), .int .u64 (m2 : Int), .int .u64 (m3 : Int), .int .u64 (m4 : Int)]
    have B0 := HB.out.trans (b1.mono HB.out.size)
    have B1 := B0.alloc B0.size (.cells #[.int .u64 (m1 : Int), .int .u64 (m2 : Int), .int .u64 (m3 : Int), .int .u64 (m4 : Int)] 26)
    clear HA HC HV HB B0 b1
    have HALL : Hid (∀ w', Below (w1.alloc (.cells #[.int .u64 (m1 : Int), .int .u64 (m2 : Int), .int .u64 (m3 : Int), .int .u64 (m4 : Int)] 26)).heap.size (w1.alloc (.cells #[.int .u64 (m1 : Int), .int .u64 (m2 : Int), .int .u64 (m3 : Int), .int .u64 (m4 : Int)] 26)) w' → w'.cell? ⟨w.heap.size, 0, none⟩ = some (.int .u64 (a : Int)) ∧ w'.cell? ⟨w.heap.size, 1, none⟩ = some (.int .u64 (b : Int)) ∧ w'.cell? ⟨w.heap.size, 2, none⟩ = some (.int .u64 (c : Int)) ∧ w'.cell? ⟨w.heap.size, 3, none⟩ = some (.int .u64 (d : Int)) ∧ w'.cell? ⟨w.heap.size + 1, 0, none⟩ = some (.int .u64 (a2 : Int)) ∧ w'.cell? ⟨w.heap.size + 1, 1, none⟩ = some (.int .u64 (b2 : Int)) ∧ w'.cell? ⟨w.heap.size + 1, 2, none⟩ = some (.int .u64 (c2 : Int)) ∧ w'.cell? ⟨w.heap.size + 1, 3, none⟩ = some (.int .u64 (d2 : Int)) ∧ w'.cell? ⟨w.heap.size + 1 + 1, 0, none⟩ = some (.int .u64 (x : Int)) ∧ w'.cell? ⟨w.heap.size + 1 + 1, 1, none⟩ = some (.int .u64 (y : Int)) ∧ w'.cell? ⟨w1.heap.size, 0, none⟩ = some (.int .u64 (m1 : Int)) ∧ w'.cell? ⟨w1.heap.size, 1, none⟩ = some (.int .u64 (m2 : Int)) ∧ w'.cell? ⟨w1.heap.size, 2, none⟩ = some (.int .u64 (m3 : Int)) ∧ w'.cell? ⟨w1.heap.size, 3, none⟩ = some (.int .u64 (m4 : Int))) := hide_ (fun w' k => by
      obtain ⟨p0, p1, p2, p3, -⟩ := (A1.later k).four
      obtain ⟨p4, p5, p6, p7, -⟩ := (C1.later k).four
      obtain ⟨p8, p9, -⟩ := (V1.later k).two
      obtain ⟨r0, r1, r2, r3, -⟩ := (M1.later k).four
      exact ⟨p0, p1, p2, p3, p4, p5, p6, p7, p8, p9, r0, r1, r2, r3⟩)
    have HBB := hide_ B1
    clear A1 C1 V1 M1 B1
    obtain ⟨o0, o1, o2, o3, o4, o5, o6, o7, o8, o9, o10, o11, o12, o13⟩ := HALL.out _ (Below.refl _ _)
    go_wp2_with fail
    generalize w1.alloc (.cells #[.int .u64 (m1 : Int), .int .u64 (m2 : Int), .int .u64 (m3 : Int), .int .u64 (m4 : Int)] 26) = W at *
    generalize w1.heap.size = n at *
    have kk : Below W.heap.size W W := Below.refl _ _
    go_wp2_with (first | (go_at_call_of 11 (Value.int IntKind.u64 (a : Int)); refine (q2.out _).mono ?_; rintro e w9 ⟨rfl, hb9⟩; have kk := kk.trans (hb9.mono kk.size); obtain ⟨o0, o1, o2, o3, o4, o5, o6, o7, o8, o9, o10, o11, o12, o13⟩ := HALL.out _ kk) | (go_at_call_of 11 (Value.int IntKind.u64 (a2 : Int)); refine (q3.out _).mono ?_; rintro e w9 ⟨rfl, hb9⟩; have kk := kk.trans (hb9.mono kk.size); obtain ⟨o0, o1, o2, o3, o4, o5, o6, o7, o8, o9, o10, o11, o12, o13⟩ := HALL.out _ kk) | (go_at_call_of 11 (Value.int IntKind.u64 (m1 : Int)); refine (q4.out _).mono ?_; rintro e w9 ⟨rfl, hb9⟩; have kk := kk.trans (hb9.mono kk.size); obtain ⟨o0, o1, o2, o3, o4, o5, o6, o7, o8, o9, o10, o11, o12, o13⟩ := HALL.out _ kk) | (go_at_call 22; refine (awake5_any _).mono ?_; rintro e w9 ⟨rfl, hb9⟩; have kk := kk.trans (hb9.mono kk.size)))
    go_ret
    exact ⟨rfl, HBB.out.trans (kk.mono HBB.out.size)⟩


end Go.Proofs.Ytabeahglfhhfmaa
