import Derived.Test.YtabeahglfhhfmaaTg
namespace Go.Proofs.Ytabeahglfhhfmaa
open Go Go.RowKit
set_option linter.unusedVariables false
set_option linter.unusedSimpArgs false

theorem bit_on (j x y : Nat) (hj : j < 128) (hx : x < 18446744073709551616) (hy : y < 18446744073709551616) : (andn (bh j) x == 0 && andn (bl j) y == 0) = hasb x y j := by
  rw [Bool.eq_iff_iff]
  simp only [Bool.and_eq_true, beq_iff_eq]
  rw [tb_sub x (bh j) hx (bh_lt j hj), tb_sub y (bl j) hy (bl_lt j)]
  unfold hasb bh bl
  by_cases h : j < 64
  · rw [if_pos h, if_pos h, if_pos h]
    constructor
    · rintro ⟨-, k⟩; exact k j (by simp [Nat.testBit_two_pow])
    · intro k
      refine ⟨fun i hi => by simp at hi, fun i hi => ?_⟩
      rw [Nat.testBit_two_pow] at hi
      have : j = i := by simpa using hi
      rw [← this]; exact k
  · rw [if_neg h, if_neg h, if_neg h]
    constructor
    · rintro ⟨k, -⟩; exact k (j - 64) (by simp [Nat.testBit_two_pow])
    · intro k
      refine ⟨fun i hi => ?_, fun i hi => by simp at hi⟩
      rw [Nat.testBit_two_pow] at hi
      have : j - 64 = i := by simpa using hi
      rw [← this]; exact k
def frest (a b c d x y j : Nat) : Bool := (a ^^^ x) &&& andn c (bh j) == 0 && (b ^^^ y) &&& andn d (bl j) == 0
theorem fix_on (a b c d x y j : Nat) (hj : j < 128) (ha : a < 18446744073709551616) (hb : b < 18446744073709551616) (hc : c < 18446744073709551616) (hd : d < 18446744073709551616) (hx : x < 18446744073709551616) (hy : y < 18446744073709551616) : thz (fixv (a &&& c) (bh j) true) (fixv (b &&& d) (bl j) true) (c ||| bh j) (d ||| bl j) x y = (hasb x y j && frest a b c d x y j) := by
  rw [← bit_on j x y hj hx hy]
  have h1 := tb_on a c (bh j) x ha hc (bh_lt j hj) hx
  have h2 := tb_on b d (bl j) y hb hd (bl_lt j) hy
  rw [andn_or _ _ (and_lt _ _ ha) (bh_lt j hj)] at h1
  rw [andn_or _ _ (and_lt _ _ hb) (bl_lt j)] at h2
  rw [Bool.eq_iff_iff]
  simp only [thz, fixv, frest, Bool.and_eq_true, beq_iff_eq, h1, h2]
  constructor
  · rintro ⟨⟨p, q⟩, r, s⟩; exact ⟨⟨p, r⟩, q, s⟩
  · rintro ⟨⟨p, r⟩, q, s⟩; exact ⟨⟨p, q⟩, r, s⟩
theorem fix_off (a b c d x y j : Nat) (hj : j < 128) (ha : a < 18446744073709551616) (hb : b < 18446744073709551616) (hc : c < 18446744073709551616) (hd : d < 18446744073709551616) (hx : x < 18446744073709551616) (hy : y < 18446744073709551616) : thz (fixv (a &&& c) (bh j) false) (fixv (b &&& d) (bl j) false) (c ||| bh j) (d ||| bl j) x y = (!hasb x y j && frest a b c d x y j) := by
  rw [← has_val x y j, Bool.not_not]
  have h1 := tb_off a c (bh j) x ha hc (bh_lt j hj) hx
  have h2 := tb_off b d (bl j) y hb hd (bl_lt j) hy
  rw [Bool.eq_iff_iff]
  simp only [thz, fixv, frest, Bool.and_eq_true, beq_iff_eq, h1, h2]
  constructor
  · rintro ⟨⟨p, q⟩, r, s⟩; exact ⟨⟨p, r⟩, q, s⟩
  · rintro ⟨⟨p, r⟩, q, s⟩; exact ⟨⟨p, q⟩, r, s⟩
theorem fix_free (a b c d x y j : Nat) (hj : j < 128) (ha : a < 18446744073709551616) (hb : b < 18446744073709551616) (hc : c < 18446744073709551616) (hd : d < 18446744073709551616) (hx : x < 18446744073709551616) (hy : y < 18446744073709551616) (h : hasb c d j = false) : frest a b c d x y j = thz a b c d x y := by
  rw [← has_val c d j] at h
  simp only [Bool.not_eq_false', Bool.and_eq_true, beq_iff_eq] at h
  unfold frest thz
  rw [tb_free c (bh j) hc (bh_lt j hj) h.1, tb_free d (bl j) hd (bl_lt j) h.2]
theorem fixv_lt (x h : Nat) (on : Bool) (hx : x < 18446744073709551616) (hh : h < 18446744073709551616) : fixv x h on < 18446744073709551616 := by
  cases on
  · exact tandn_lt _ _ hx
  · exact or_lt _ _ hx hh
theorem tfix_nat (a b c d j : Nat) (on : Bool) (w : World) (hj : j < 128) (ha : a < 18446744073709551616) (hb : b < 18446744073709551616) (hc : c < 18446744073709551616) (hd : d < 18446744073709551616) :
    Calls Try.prog 20 #[td a b c d, .int .i64 (j : Int), .bool on] w fun e w' => e = .returned (td (fixv (a &&& c) (bh j) on) (fixv (b &&& d) (bl j) on) (c ||| bh j) (d ||| bl j)) ∧ Below w.heap.size w w' := by
  have := tfix_any a b c d (j : Int) on w ha hb hc hd
  rwa [bhz_nat j hj, blz_nat j hj] at this
theorem whas_nat (a b j : Nat) (w : World) (ha : a < 18446744073709551616) (hb : b < 18446744073709551616) (h : j < 128) : Calls Try.prog 25 #[wd a b, .int .i64 (j : Int)] w fun e w' => e = .returned (.bool (hasb a b j)) ∧ Below w.heap.size w w' := by
  have := has_any a b (j : Int) w ha hb
  rwa [hasz_nat a b j h] at this

set_option maxRecDepth 100000 in
set_option maxHeartbeats 4000000 in
theorem ternFix_walk (a b c d X x y : Nat) (w : World) (ha : a < 18446744073709551616) (hb : b < 18446744073709551616) (hc : c < 18446744073709551616) (hd : d < 18446744073709551616) (hx : x < 18446744073709551616) (hy : y < 18446744073709551616) (hX : X < 256) :
    Calls Try.prog 6 #[td a b c d, .int .u8 (X : Int), wd x y] w fun e w' => e = .returned (.bool true) ∧ Below w.heap.size w w' := by
  obtain ⟨j, hjX, hj⟩ : ∃ j : Nat, (X : Int) % 128 = (j : Int) ∧ j < 128 := ⟨X % 128, by omega, by omega⟩
  have hjn : (0 : Int) ≤ (j : Int) ∧ (j : Int) < 128 := by omega
  obtain ⟨hj0, hj1⟩ := hjn
  have q1 := hide_ (fun w => tfix_nat a b c d j true w hj ha hb hc hd)
  have q2 := fun w => thas_z (fixv (a &&& c) (bh j) true) (fixv (b &&& d) (bl j) true) (c ||| bh j) (d ||| bl j) x y w (fixv_lt _ _ true (and_lt _ _ ha) (bh_lt j hj)) (fixv_lt _ _ true (and_lt _ _ hb) (bl_lt j)) (or_lt _ _ hc (bh_lt j hj)) (or_lt _ _ hd (bl_lt j)) hx hy
  have q3 := hide_ (fun w => tfix_nat a b c d j false w hj ha hb hc hd)
  have q4 := fun w => thas_z (fixv (a &&& c) (bh j) false) (fixv (b &&& d) (bl j) false) (c ||| bh j) (d ||| bl j) x y w (fixv_lt _ _ false (and_lt _ _ ha) (bh_lt j hj)) (fixv_lt _ _ false (and_lt _ _ hb) (bl_lt j)) (or_lt _ _ hc (bh_lt j hj)) (or_lt _ _ hd (bl_lt j)) hx hy
  rw [fix_on a b c d x y j hj ha hb hc hd hx hy] at q2
  rw [fix_off a b c d x y j hj ha hb hc hd hx hy] at q4
  have q2 := hide_ q2
  have q4 := hide_ q4
  have q5 := hide_ (fun w => whas_nat c d j w hc hd hj)
  have q6 := hide_ (fun w => whas_nat x y j w hx hy hj)
  have q7 := hide_ (fun w => thas_z a b c d x y w ha hb hc hd hx hy)
  have fr := fix_free a b c d x y j hj ha hb hc hd hx hy
  generalize thz a b c d x y = zT at *
  generalize frest a b c d x y j = zr at *
  generalize hasb x y j = zv at *
  generalize hasb c d j = zc at *
  generalize fixv (a &&& c) (bh j) true = f1 at *
  generalize fixv (b &&& d) (bl j) true = f2 at *
  generalize fixv (a &&& c) (bh j) false = g1 at *
  generalize fixv (b &&& d) (bl j) false = g2 at *
  generalize c ||| bh j = f3 at *
  generalize d ||| bl j = f4 at *
  clear ha hb hc hd hx hy hj
  unfold td at *
  unfold wd at *
  have HB := hide_ (below2 w (.cells #[.int .u64 (a : Int), .int .u64 (b : Int), .int .u64 (c : Int), .int .u64 (d : Int)] 26) (.cells #[.int .u64 (x : Int), .int .u64 (y : Int)] 24))
  have HA := hide_ ((AB.at0 w 26 [.int .u64 (a : Int), .int .u64 (b : Int), .int .u64 (c : Int), .int .u64 (d : Int)]).alloc (.cells #[.int .u64 (x : Int), .int .u64 (y : Int)] 24))
  have HV := hide_ (AB.at1 w (.cells #[.int .u64 (a : Int), .int .u64 (b : Int), .int .u64 (c : Int), .int .u64 (d : Int)] 26) 24 [.int .u64 (x : Int), .int .u64 (y : Int)])
  obtain ⟨o0, o1, o2, o3, -⟩ := HA.out.four
  obtain ⟨o4, o5, -⟩ := HV.out.two
  have HFR := hide_ fr
  clear fr
  go_enter Try.func6, Try.ntmps6
  go_wp2_with fail
  have HALL : Hid (∀ w', Below ((w.alloc (.cells #[.int .u64 (a : Int), .int .u64 (b : Int), .int .u64 (c : Int), .int .u64 (d : Int)] 26)).alloc (.cells #[.int .u64 (x : Int), .int .u64 (y : Int)] 24)).heap.size ((w.alloc (.cells #[.int .u64 (a : Int), .int .u64 (b : Int), .int .u64 (c : Int), .int .u64 (d : Int)] 26)).alloc (.cells #[.int .u64 (x : Int), .int .u64 (y : Int)] 24)) w' → w'.cell? ⟨w.heap.size, 0, none⟩ = some (.int .u64 (a : Int)) ∧ w'.cell? ⟨w.heap.size, 1, none⟩ = some (.int .u64 (b : Int)) ∧ w'.cell? ⟨w.heap.size, 2, none⟩ = some (.int .u64 (c : Int)) ∧ w'.cell? ⟨w.heap.size, 3, none⟩ = some (.int .u64 (d : Int)) ∧ w'.cell? ⟨w.heap.size + 1, 0, none⟩ = some (.int .u64 (x : Int)) ∧ w'.cell? ⟨w.heap.size + 1, 1, none⟩ = some (.int .u64 (y : Int))) := hide_ (fun w' k => by
    obtain ⟨p0, p1, p2, p3, -⟩ := (HA.out.later k).four
    obtain ⟨p4, p5, -⟩ := (HV.out.later k).two
    exact ⟨p0, p1, p2, p3, p4, p5⟩)
  clear HA HV
  generalize ((w.alloc (.cells #[.int .u64 (a : Int), .int .u64 (b : Int), .int .u64 (c : Int), .int .u64 (d : Int)] 26)).alloc (.cells #[.int .u64 (x : Int), .int .u64 (y : Int)] 24)) = W at *
  go_region_held3 (fun w' => w'.cell? ⟨w.heap.size, 0, none⟩ = some (.int .u64 (a : Int)) ∧ w'.cell? ⟨w.heap.size, 1, none⟩ = some (.int .u64 (b : Int)) ∧ w'.cell? ⟨w.heap.size, 2, none⟩ = some (.int .u64 (c : Int)) ∧ w'.cell? ⟨w.heap.size, 3, none⟩ = some (.int .u64 (d : Int)) ∧ w'.cell? ⟨w.heap.size + 1, 0, none⟩ = some (.int .u64 (x : Int)) ∧ w'.cell? ⟨w.heap.size + 1, 1, none⟩ = some (.int .u64 (y : Int)) ∧ Below W.heap.size W w')
    (first | (with_reducible exact keepA6 (by assumption) (by assumption)) | (exact ⟨o0, o1, o2, o3, o4, o5, (Below.refl _ _).drew⟩) | (exact ⟨o0, o1, o2, o3, o4, o5, Below.refl _ _⟩))
    (first | (go_at_call_of 20 (Value.bool true); refine (q1.out _).mono ?_; rintro e w' ⟨rfl, hb⟩) | (go_at_call_of 11 (Value.int IntKind.u64 (f1 : Int)); refine (q2.out _).mono ?_; rintro e w' ⟨rfl, hb⟩) | (go_at_call_of 20 (Value.bool false); refine (q3.out _).mono ?_; rintro e w' ⟨rfl, hb⟩) | (go_at_call_of 11 (Value.int IntKind.u64 (g1 : Int)); refine (q4.out _).mono ?_; rintro e w' ⟨rfl, hb⟩))
  rename_i hH
  have kk := hH.2.2.2.2.2.2
  clear hH o0 o1 o2 o3 o4 o5 hb
  obtain ⟨o0, o1, o2, o3, o4, o5⟩ := HALL.out _ kk
  cases zc
  · have e := HFR.out rfl
    subst e
    cases zv <;> cases zr
    all_goals
      go_wp2_with (first | (go_at_call_of 25 (Value.int IntKind.u64 (c : Int)); refine (q5.out _).mono ?_; rintro e w9 ⟨rfl, hb9⟩; have kk := kk.trans (hb9.mono kk.size); obtain ⟨o0, o1, o2, o3, o4, o5⟩ := HALL.out _ kk) | (go_at_call_of 25 (Value.int IntKind.u64 (x : Int)); refine (q6.out _).mono ?_; rintro e w9 ⟨rfl, hb9⟩; have kk := kk.trans (hb9.mono kk.size); obtain ⟨o0, o1, o2, o3, o4, o5⟩ := HALL.out _ kk) | (go_at_call_of 11 (Value.int IntKind.u64 (a : Int)); refine (q7.out _).mono ?_; rintro e w9 ⟨rfl, hb9⟩; have kk := kk.trans (hb9.mono kk.size); obtain ⟨o0, o1, o2, o3, o4, o5⟩ := HALL.out _ kk) | (go_at_call 22; refine (awake5_any _).mono ?_; rintro e w9 ⟨rfl, hb9⟩; have kk := kk.trans (hb9.mono kk.size)))
      go_ret
      exact ⟨rfl, HB.out.trans (kk.mono HB.out.size)⟩
  · clear HFR
    cases zv <;> cases zr
    all_goals
      go_wp2_with (first | (go_at_call_of 25 (Value.int IntKind.u64 (c : Int)); refine (q5.out _).mono ?_; rintro e w9 ⟨rfl, hb9⟩; have kk := kk.trans (hb9.mono kk.size); obtain ⟨o0, o1, o2, o3, o4, o5⟩ := HALL.out _ kk) | (go_at_call_of 25 (Value.int IntKind.u64 (x : Int)); refine (q6.out _).mono ?_; rintro e w9 ⟨rfl, hb9⟩; have kk := kk.trans (hb9.mono kk.size); obtain ⟨o0, o1, o2, o3, o4, o5⟩ := HALL.out _ kk) | (go_at_call_of 11 (Value.int IntKind.u64 (a : Int)); refine (q7.out _).mono ?_; rintro e w9 ⟨rfl, hb9⟩; have kk := kk.trans (hb9.mono kk.size); obtain ⟨o0, o1, o2, o3, o4, o5⟩ := HALL.out _ kk) | (go_at_call 22; refine (awake5_any _).mono ?_; rintro e w9 ⟨rfl, hb9⟩; have kk := kk.trans (hb9.mono kk.size)))
      go_ret
      exact ⟨rfl, HB.out.trans (kk.mono HB.out.size)⟩


end Go.Proofs.Ytabeahglfhhfmaa
