import Derived.Test.YtabeahglfhhfmaaTg
namespace Go.Proofs.Ytabeahglfhhfmaa
open Go Go.RowKit
set_option linter.unusedVariables false
set_option linter.unusedSimpArgs false

theorem cell_fill2 {w : World} {g : Nat} {p : Addr} (hp : g ≠ p.block) (x y : Value) : ((w.setCell ⟨g, 0, none⟩ x).setCell ⟨g, 1, none⟩ y).cell? p = w.cell? p := by
  have hn : ∀ i, (⟨g, i, none⟩ : Addr) ≠ p := fun i e => hp (by rw [← e])
  rw [World.cell?_setCell_other (h := hn 1), World.cell?_setCell_other (h := hn 0)]
def twz (a b c d a2 b2 c2 d2 : Nat) : Bool := (andn c2 c == 0 && andn d2 d == 0) && ((a ^^^ a2) &&& c2 == 0 && (b ^^^ b2) &&& d2 == 0)
theorem within_sub (a b c d a2 b2 c2 d2 x y : Nat) (hc : c < 18446744073709551616) (hd : d < 18446744073709551616) (hc2 : c2 < 18446744073709551616) (hd2 : d2 < 18446744073709551616) (h : twz a b c d a2 b2 c2 d2 = true) (k : thz a b c d x y = true) : thz a2 b2 c2 d2 x y = true := by
  simp only [twz, thz, Bool.and_eq_true, beq_iff_eq] at h k ⊢
  obtain ⟨⟨h1, h2⟩, h3, h4⟩ := h
  exact ⟨tb_within a c a2 c2 x hc hc2 h1 h3 k.1, tb_within b d b2 d2 y hd hd2 h2 h4 k.2⟩
theorem clean_has (a b c d : Nat) : thz a b c d (a &&& c) (b &&& d) = true := by
  simp only [thz, Bool.and_eq_true, beq_iff_eq]
  exact ⟨tb_clean a c, tb_clean b d⟩
theorem tb_own' (av am bv bm : Nat) (ha : am < 18446744073709551616) (hb : bm < 18446744073709551616) (h1 : andn bm am = 0) (hx : (bv ^^^ (av &&& am)) &&& bm = 0) : (av ^^^ bv) &&& bm = 0 := by
  apply Classical.byContradiction
  intro h
  exact tb_own av am bv bm ha hb (fun k => h k.2) hx h1
theorem own_bits (a b c d a2 b2 c2 d2 : Nat) (hc : c < 18446744073709551616) (hd : d < 18446744073709551616) (hc2 : c2 < 18446744073709551616) (hd2 : d2 < 18446744073709551616) (h : twz a b c d a2 b2 c2 d2 = false) (k : thz a2 b2 c2 d2 (a &&& c) (b &&& d) = true) : (andn c2 c == 0 && andn d2 d == 0) = false := by
  rw [Bool.eq_false_iff]
  intro e
  simp only [thz, Bool.and_eq_true, beq_iff_eq] at e k
  have k1 := tb_own' a c a2 c2 hc hc2 e.1 k.1
  have k2 := tb_own' b d b2 d2 hd hd2 e.2 k.2
  have : twz a b c d a2 b2 c2 d2 = true := by
    simp only [twz, Bool.and_eq_true, beq_iff_eq]
    exact ⟨e, k1, k2⟩
  rw [this] at h
  cases h
theorem tb_flip (v m h : Nat) (k : m &&& h = 0) : (v ^^^ ((v &&& m) ^^^ h)) &&& m = 0 := by
  rw [tb_zero] at k ⊢
  intro i
  have k := k i
  rw [Nat.testBit_and] at k
  rw [Nat.testBit_and, Nat.testBit_xor, Nat.testBit_xor, Nat.testBit_and]
  revert k
  cases m.testBit i <;> cases h.testBit i <;> cases v.testBit i <;> simp
theorem tb_both (v m p h : Nat) (k : (v ^^^ p) &&& m = 0) (k' : (v ^^^ (p ^^^ h)) &&& m = 0) : m &&& h = 0 := by
  rw [tb_zero] at k k' ⊢
  intro i
  have k := k i
  have k' := k' i
  rw [Nat.testBit_and, Nat.testBit_xor] at k
  rw [Nat.testBit_and, Nat.testBit_xor, Nat.testBit_xor] at k'
  rw [Nat.testBit_and]
  revert k k'
  cases m.testBit i <;> cases h.testBit i <;> cases v.testBit i <;> cases p.testBit i <;> simp
theorem hasb_none (c d t : Nat) : hasb c d t = false ↔ c &&& bh t = 0 ∧ d &&& bl t = 0 := by
  rw [← has_val c d t]
  simp only [Bool.not_eq_false', Bool.and_eq_true, beq_iff_eq]
theorem flip_a (a b c d t : Nat) (h : hasb c d t = false) : thz a b c d ((a &&& c) ^^^ bh t) ((b &&& d) ^^^ bl t) = true := by
  rw [hasb_none] at h
  simp only [thz, Bool.and_eq_true, beq_iff_eq]
  exact ⟨tb_flip a c _ h.1, tb_flip b d _ h.2⟩
theorem flip_b (a b c d p q t : Nat) (h : hasb c d t = true) (k : thz a b c d p q = true) : thz a b c d (p ^^^ bh t) (q ^^^ bl t) = false := by
  rw [Bool.eq_false_iff]
  intro e
  simp only [thz, Bool.and_eq_true, beq_iff_eq] at e k
  have : hasb c d t = false := (hasb_none c d t).2 ⟨tb_both _ _ _ _ k.1 e.1, tb_both _ _ _ _ k.2 e.2⟩
  rw [this] at h
  cases h
theorem tbits_head (a b c d a2 b2 c2 d2 : Nat) (w : World) (ha : a < 18446744073709551616) (hb : b < 18446744073709551616) (hc : c < 18446744073709551616) (hd : d < 18446744073709551616) (ha2 : a2 < 18446744073709551616) (hb2 : b2 < 18446744073709551616) (hc2 : c2 < 18446744073709551616) (hd2 : d2 < 18446744073709551616) (h : (andn c2 c == 0 && andn d2 d == 0) = false) :
    Calls Try.prog 16 #[td a b c d, td a2 b2 c2 d2] w fun e w' => ∃ bk off k cap, e = .returned (.slice (some ⟨bk, off, none⟩) (k + 1) cap) ∧ w'.cell? ⟨bk, off, none⟩ = some (.int .i64 ((top (andn c2 c) (andn d2 d) : Nat) : Int)) ∧ Below w.heap.size w w' := by
  refine (tbits_any a b c d a2 b2 c2 d2 w ha hb hc hd ha2 hb2 hc2 hd2).mono ?_
  rintro e w' ⟨u, rfl, hc', hb'⟩
  rw [fall_round _ _ (tandn_lt _ _ hc2) (tandn_lt _ _ hd2) h] at hc'
  generalize fall _ 128 = L at *
  have hc2' := hc'
  obtain ⟨_, a0, cap, rfl, _⟩ := hc2'
  obtain ⟨_, _, _, h4⟩ := hc'.at
  obtain ⟨bk, off, rfl, hcell⟩ := h4 0 (.int .i64 ((top (andn c2 c) (andn d2 d) : Nat) : Int)) (by simp [i64s])
  exact ⟨bk, off, L.length, cap, rfl, hcell, hb'⟩
theorem twithin_z (a b c d a2 b2 c2 d2 : Nat) (w : World) (ha : a < 18446744073709551616) (hb : b < 18446744073709551616) (hc : c < 18446744073709551616) (hd : d < 18446744073709551616) (ha2 : a2 < 18446744073709551616) (hb2 : b2 < 18446744073709551616) (hc2 : c2 < 18446744073709551616) (hd2 : d2 < 18446744073709551616) :
    Calls Try.prog 13 #[td a b c d, td a2 b2 c2 d2] w fun e w' => e = .returned (.bool (twz a b c d a2 b2 c2 d2)) ∧ Below w.heap.size w w' := twithin_any a b c d a2 b2 c2 d2 w ha hb hc hd ha2 hb2 hc2 hd2

set_option maxRecDepth 100000 in
set_option maxHeartbeats 4000000 in
theorem ternWithin_in (a b c d a2 b2 c2 d2 x y : Nat) (w : World) (ha : a < 18446744073709551616) (hb : b < 18446744073709551616) (hc : c < 18446744073709551616) (hd : d < 18446744073709551616) (ha2 : a2 < 18446744073709551616) (hb2 : b2 < 18446744073709551616) (hc2 : c2 < 18446744073709551616) (hd2 : d2 < 18446744073709551616) (hx : x < 18446744073709551616) (hy : y < 18446744073709551616) (hz : twz a b c d a2 b2 c2 d2 = true) :
    Calls Try.prog 5 #[td a b c d, td a2 b2 c2 d2, wd x y] w fun e w' => e = .returned (.bool true) ∧ Below w.heap.size w w' := by
  have q1 := fun w => twithin_z a b c d a2 b2 c2 d2 w ha hb hc hd ha2 hb2 hc2 hd2
  rw [hz] at q1
  have q1 := hide_ q1
  have q2 := hide_ (fun w => thas_z a b c d x y w ha hb hc hd hx hy)
  have q3 := hide_ (fun w => thas_z a2 b2 c2 d2 x y w ha2 hb2 hc2 hd2 hx hy)
  have rel := within_sub a b c d a2 b2 c2 d2 x y hc hd hc2 hd2 hz
  clear hz ha hb hc hd ha2 hb2 hc2 hd2 hx hy
  generalize thz a b c d x y = zA at *
  generalize thz a2 b2 c2 d2 x y = zB at *
  unfold td at *
  unfold wd at *
  have HA := hide_ (((AB.at0 w 26 [.int .u64 (a : Int), .int .u64 (b : Int), .int .u64 (c : Int), .int .u64 (d : Int)]).alloc (.cells #[.int .u64 (a2 : Int), .int .u64 (b2 : Int), .int .u64 (c2 : Int), .int .u64 (d2 : Int)] 26)).alloc (.cells #[.int .u64 (x : Int), .int .u64 (y : Int)] 24))
  have HC := hide_ ((AB.at1 w (.cells #[.int .u64 (a : Int), .int .u64 (b : Int), .int .u64 (c : Int), .int .u64 (d : Int)] 26) 26 [.int .u64 (a2 : Int), .int .u64 (b2 : Int), .int .u64 (c2 : Int), .int .u64 (d2 : Int)]).alloc (.cells #[.int .u64 (x : Int), .int .u64 (y : Int)] 24))
  have HV := hide_ (AB.at2 w (.cells #[.int .u64 (a : Int), .int .u64 (b : Int), .int .u64 (c : Int), .int .u64 (d : Int)] 26) (.cells #[.int .u64 (a2 : Int), .int .u64 (b2 : Int), .int .u64 (c2 : Int), .int .u64 (d2 : Int)] 26) 24 [.int .u64 (x : Int), .int .u64 (y : Int)])
  have HB := hide_ (below3 w (.cells #[.int .u64 (a : Int), .int .u64 (b : Int), .int .u64 (c : Int), .int .u64 (d : Int)] 26) (.cells #[.int .u64 (a2 : Int), .int .u64 (b2 : Int), .int .u64 (c2 : Int), .int .u64 (d2 : Int)] 26) (.cells #[.int .u64 (x : Int), .int .u64 (y : Int)] 24))
  have HALL : Hid (∀ w', Below (((w.alloc (.cells #[.int .u64 (a : Int), .int .u64 (b : Int), .int .u64 (c : Int), .int .u64 (d : Int)] 26)).alloc (.cells #[.int .u64 (a2 : Int), .int .u64 (b2 : Int), .int .u64 (c2 : Int), .int .u64 (d2 : Int)] 26)).alloc (.cells #[.int .u64 (x : Int), .int .u64 (y : Int)] 24)).heap.size (((w.alloc (.cells #[.int .u64 (a : Int), .int .u64 (b : Int), .int .u64 (c : Int), .int .u64 (d : Int)] 26)).alloc (.cells #[.int .u64 (a2 : Int), .int .u64 (b2 : Int), .int .u64 (c2 : Int), .int .u64 (d2 : Int)] 26)).alloc (.cells #[.int .u64 (x : Int), .int .u64 (y : Int)] 24)) w' → w'.cell? ⟨w.heap.size, 0, none⟩ = some (.int .u64 (a : Int)) ∧ w'.cell? ⟨w.heap.size, 1, none⟩ = some (.int .u64 (b : Int)) ∧ w'.cell? ⟨w.heap.size, 2, none⟩ = some (.int .u64 (c : Int)) ∧ w'.cell? ⟨w.heap.size, 3, none⟩ = some (.int .u64 (d : Int)) ∧ w'.cell? ⟨w.heap.size + 1, 0, none⟩ = some (.int .u64 (a2 : Int)) ∧ w'.cell? ⟨w.heap.size + 1, 1, none⟩ = some (.int .u64 (b2 : Int)) ∧ w'.cell? ⟨w.heap.size + 1, 2, none⟩ = some (.int .u64 (c2 : Int)) ∧ w'.cell? ⟨w.heap.size + 1, 3, none⟩ = some (.int .u64 (d2 : Int)) ∧ w'.cell? ⟨w.heap.size + 1 + 1, 0, none⟩ = some (.int .u64 (x : Int)) ∧ w'.cell? ⟨w.heap.size + 1 + 1, 1, none⟩ = some (.int .u64 (y : Int))) := hide_ (fun w' k => by
    obtain ⟨p0, p1, p2, p3, -⟩ := (HA.out.later k).four
    obtain ⟨p4, p5, p6, p7, -⟩ := (HC.out.later k).four
    obtain ⟨p8, p9, -⟩ := (HV.out.later k).two
    exact ⟨p0, p1, p2, p3, p4, p5, p6, p7, p8, p9⟩)
  clear HA HC HV
  cases zA <;> cases zB <;> first | (exfalso; revert rel; decide) | skip
  all_goals
    clear rel
    go_enter Try.func5, Try.ntmps5
    go_wp2_with fail
    generalize (((w.alloc (.cells #[.int .u64 (a : Int), .int .u64 (b : Int), .int .u64 (c : Int), .int .u64 (d : Int)] 26)).alloc (.cells #[.int .u64 (a2 : Int), .int .u64 (b2 : Int), .int .u64 (c2 : Int), .int .u64 (d2 : Int)] 26)).alloc (.cells #[.int .u64 (x : Int), .int .u64 (y : Int)] 24)) = W at *
    have kk : Below W.heap.size W W := Below.refl _ _
    go_wp2_with (first | (go_at_call 13; refine (q1.out _).mono ?_; rintro e w9 ⟨rfl, hb9⟩; have kk := kk.trans (hb9.mono kk.size); obtain ⟨o0, o1, o2, o3, o4, o5, o6, o7, o8, o9⟩ := HALL.out _ kk) | (go_at_call_of 11 (Value.int IntKind.u64 (a : Int)); refine (q2.out _).mono ?_; rintro e w9 ⟨rfl, hb9⟩; have kk := kk.trans (hb9.mono kk.size); obtain ⟨o0, o1, o2, o3, o4, o5, o6, o7, o8, o9⟩ := HALL.out _ kk) | (go_at_call_of 11 (Value.int IntKind.u64 (a2 : Int)); refine (q3.out _).mono ?_; rintro e w9 ⟨rfl, hb9⟩; have kk := kk.trans (hb9.mono kk.size); obtain ⟨o0, o1, o2, o3, o4, o5, o6, o7, o8, o9⟩ := HALL.out _ kk) | (go_at_call 22; refine (awake5_any _).mono ?_; rintro e w9 ⟨rfl, hb9⟩; have kk := kk.trans (hb9.mono kk.size); obtain ⟨o0, o1, o2, o3, o4, o5, o6, o7, o8, o9⟩ := HALL.out _ kk))
    go_ret
    exact ⟨rfl, HB.out.trans (kk.mono HB.out.size)⟩

set_option maxRecDepth 100000 in
set_option maxHeartbeats 4000000 in
theorem ternWithin_out (a b c d a2 b2 c2 d2 x y : Nat) (w : World) (ha : a < 18446744073709551616) (hb : b < 18446744073709551616) (hc : c < 18446744073709551616) (hd : d < 18446744073709551616) (ha2 : a2 < 18446744073709551616) (hb2 : b2 < 18446744073709551616) (hc2 : c2 < 18446744073709551616) (hd2 : d2 < 18446744073709551616) (hx : x < 18446744073709551616) (hy : y < 18446744073709551616) (hz : twz a b c d a2 b2 c2 d2 = false) (hh : thz a2 b2 c2 d2 (a &&& c) (b &&& d) = false) :
    Calls Try.prog 5 #[td a b c d, td a2 b2 c2 d2, wd x y] w fun e w' => e = .returned (.bool true) ∧ Below w.heap.size w w' := by
  have q1 := fun w => twithin_z a b c d a2 b2 c2 d2 w ha hb hc hd ha2 hb2 hc2 hd2
  rw [hz] at q1
  have q1 := hide_ q1
  have q2 := hide_ (fun w => tclean_any a b c d w ha hb hc hd)
  have q3 := hide_ (fun w => tbits_any a b c d a2 b2 c2 d2 w ha hb hc hd ha2 hb2 hc2 hd2)
  have q4 := fun w => thas_z a2 b2 c2 d2 (a &&& c) (b &&& d) w ha2 hb2 hc2 hd2 (and_lt _ _ ha) (and_lt _ _ hb)
  rw [hh] at q4
  have q4 := hide_ q4
  have q5 := fun w => thas_z a b c d (a &&& c) (b &&& d) w ha hb hc hd (and_lt _ _ ha) (and_lt _ _ hb)
  rw [clean_has a b c d] at q5
  have q5 := hide_ q5
  have hf0 := fun x y c d w => fld0 x y c d w
  clear hz hh ha hb hc hd ha2 hb2 hc2 hd2 hx hy
  generalize fall (hasb (andn c2 c) (andn d2 d)) 128 = L at *
  generalize a &&& c = p at *
  generalize b &&& d = q at *
  unfold td at *
  unfold wd at *
  have HA := hide_ (((AB.at0 w 26 [.int .u64 (a : Int), .int .u64 (b : Int), .int .u64 (c : Int), .int .u64 (d : Int)]).alloc (.cells #[.int .u64 (a2 : Int), .int .u64 (b2 : Int), .int .u64 (c2 : Int), .int .u64 (d2 : Int)] 26)).alloc (.cells #[.int .u64 (x : Int), .int .u64 (y : Int)] 24))
  have HC := hide_ ((AB.at1 w (.cells #[.int .u64 (a : Int), .int .u64 (b : Int), .int .u64 (c : Int), .int .u64 (d : Int)] 26) 26 [.int .u64 (a2 : Int), .int .u64 (b2 : Int), .int .u64 (c2 : Int), .int .u64 (d2 : Int)]).alloc (.cells #[.int .u64 (x : Int), .int .u64 (y : Int)] 24))
  have HV := hide_ (AB.at2 w (.cells #[.int .u64 (a : Int), .int .u64 (b : Int), .int .u64 (c : Int), .int .u64 (d : Int)] 26) (.cells #[.int .u64 (a2 : Int), .int .u64 (b2 : Int), .int .u64 (c2 : Int), .int .u64 (d2 : Int)] 26) 24 [.int .u64 (x : Int), .int .u64 (y : Int)])
  have HB := hide_ (below3 w (.cells #[.int .u64 (a : Int), .int .u64 (b : Int), .int .u64 (c : Int), .int .u64 (d : Int)] 26) (.cells #[.int .u64 (a2 : Int), .int .u64 (b2 : Int), .int .u64 (c2 : Int), .int .u64 (d2 : Int)] 26) (.cells #[.int .u64 (x : Int), .int .u64 (y : Int)] 24))
  have HALL : Hid (∀ w', Below (((w.alloc (.cells #[.int .u64 (a : Int), .int .u64 (b : Int), .int .u64 (c : Int), .int .u64 (d : Int)] 26)).alloc (.cells #[.int .u64 (a2 : Int), .int .u64 (b2 : Int), .int .u64 (c2 : Int), .int .u64 (d2 : Int)] 26)).alloc (.cells #[.int .u64 (x : Int), .int .u64 (y : Int)] 24)).heap.size (((w.alloc (.cells #[.int .u64 (a : Int), .int .u64 (b : Int), .int .u64 (c : Int), .int .u64 (d : Int)] 26)).alloc (.cells #[.int .u64 (a2 : Int), .int .u64 (b2 : Int), .int .u64 (c2 : Int), .int .u64 (d2 : Int)] 26)).alloc (.cells #[.int .u64 (x : Int), .int .u64 (y : Int)] 24)) w' → w'.cell? ⟨w.heap.size, 0, none⟩ = some (.int .u64 (a : Int)) ∧ w'.cell? ⟨w.heap.size, 1, none⟩ = some (.int .u64 (b : Int)) ∧ w'.cell? ⟨w.heap.size, 2, none⟩ = some (.int .u64 (c : Int)) ∧ w'.cell? ⟨w.heap.size, 3, none⟩ = some (.int .u64 (d : Int)) ∧ w'.cell? ⟨w.heap.size + 1, 0, none⟩ = some (.int .u64 (a2 : Int)) ∧ w'.cell? ⟨w.heap.size + 1, 1, none⟩ = some (.int .u64 (b2 : Int)) ∧ w'.cell? ⟨w.heap.size + 1, 2, none⟩ = some (.int .u64 (c2 : Int)) ∧ w'.cell? ⟨w.heap.size + 1, 3, none⟩ = some (.int .u64 (d2 : Int)) ∧ w'.cell? ⟨w.heap.size + 1 + 1, 0, none⟩ = some (.int .u64 (x : Int)) ∧ w'.cell? ⟨w.heap.size + 1 + 1, 1, none⟩ = some (.int .u64 (y : Int))) := hide_ (fun w' k => by
    obtain ⟨p0, p1, p2, p3, -⟩ := (HA.out.later k).four
    obtain ⟨p4, p5, p6, p7, -⟩ := (HC.out.later k).four
    obtain ⟨p8, p9, -⟩ := (HV.out.later k).two
    exact ⟨p0, p1, p2, p3, p4, p5, p6, p7, p8, p9⟩)
  clear HA HC HV
  go_enter Try.func5, Try.ntmps5
  go_wp2_with fail
  generalize (((w.alloc (.cells #[.int .u64 (a : Int), .int .u64 (b : Int), .int .u64 (c : Int), .int .u64 (d : Int)] 26)).alloc (.cells #[.int .u64 (a2 : Int), .int .u64 (b2 : Int), .int .u64 (c2 : Int), .int .u64 (d2 : Int)] 26)).alloc (.cells #[.int .u64 (x : Int), .int .u64 (y : Int)] 24)) = W at *
  have kk : Below W.heap.size W W := Below.refl _ _
  go_wp2_with (first | (go_at_call 13; refine (q1.out _).mono ?_; rintro e w9 ⟨rfl, hb9⟩; have kk := kk.trans (hb9.mono kk.size); obtain ⟨o0, o1, o2, o3, o4, o5, o6, o7, o8, o9⟩ := HALL.out _ kk) | (go_at_call 18; refine (q2.out _).mono ?_; rintro e w2 ⟨rfl, bq2⟩; have k2 := kk.trans (bq2.mono kk.size); obtain ⟨o0, o1, o2, o3, o4, o5, o6, o7, o8, o9⟩ := HALL.out _ (k2.alloc k2.size (.cells #[.int .u64 (p : Int), .int .u64 (q : Int)] 24))))
  have HB3 := hide_ (HB.out.trans ((k2.alloc k2.size (.cells #[.int .u64 (p : Int), .int .u64 (q : Int)] 24)).mono HB.out.size))
  have HALL3 : Hid (∀ w', Below (w2.alloc (.cells #[.int .u64 (p : Int), .int .u64 (q : Int)] 24)).heap.size (w2.alloc (.cells #[.int .u64 (p : Int), .int .u64 (q : Int)] 24)) w' → (w'.cell? ⟨w.heap.size, 0, none⟩ = some (.int .u64 (a : Int)) ∧ w'.cell? ⟨w.heap.size, 1, none⟩ = some (.int .u64 (b : Int)) ∧ w'.cell? ⟨w.heap.size, 2, none⟩ = some (.int .u64 (c : Int)) ∧ w'.cell? ⟨w.heap.size, 3, none⟩ = some (.int .u64 (d : Int)) ∧ w'.cell? ⟨w.heap.size + 1, 0, none⟩ = some (.int .u64 (a2 : Int)) ∧ w'.cell? ⟨w.heap.size + 1, 1, none⟩ = some (.int .u64 (b2 : Int)) ∧ w'.cell? ⟨w.heap.size + 1, 2, none⟩ = some (.int .u64 (c2 : Int)) ∧ w'.cell? ⟨w.heap.size + 1, 3, none⟩ = some (.int .u64 (d2 : Int)) ∧ w'.cell? ⟨w.heap.size + 1 + 1, 0, none⟩ = some (.int .u64 (x : Int)) ∧ w'.cell? ⟨w.heap.size + 1 + 1, 1, none⟩ = some (.int .u64 (y : Int))) ∧ w'.cell? ⟨w2.heap.size, 0, none⟩ = some (.int .u64 (p : Int)) ∧ w'.cell? ⟨w2.heap.size, 1, none⟩ = some (.int .u64 (q : Int))) := hide_ (fun w' k => by
    obtain ⟨r0, r1, -⟩ := ((AB.at0 w2 24 [.int .u64 (p : Int), .int .u64 (q : Int)]).later k).two
    have k3 := k2.alloc k2.size (.cells #[.int .u64 (p : Int), .int .u64 (q : Int)] 24)
    exact ⟨HALL.out _ (k3.trans (k.mono k3.size)), r0, r1⟩)
  clear HALL HB k2 bq2 kk hb9
  generalize w2.alloc (.cells #[.int .u64 (p : Int), .int .u64 (q : Int)] 24) = V at *
  generalize w2.heap.size = n at *
  have kk : Below V.heap.size V V := Below.refl _ _
  obtain ⟨⟨o0, o1, o2, o3, o4, o5, o6, o7, o8, o9⟩, s0, s1⟩ := HALL3.out _ kk
  go_wp2_with (first | (go_at_call 16; refine (q3.out _).mono ?_; rintro e w9 ⟨u9, rfl, -, hb9⟩; have kk := kk.trans (hb9.mono kk.size); obtain ⟨⟨o0, o1, o2, o3, o4, o5, o6, o7, o8, o9⟩, s0, s1⟩ := HALL3.out _ kk) | (go_at_call_of 11 (Value.int IntKind.u64 (a2 : Int)); refine (q4.out _).mono ?_; rintro e w9 ⟨rfl, hb9⟩; have kk := kk.trans (hb9.mono kk.size); obtain ⟨⟨o0, o1, o2, o3, o4, o5, o6, o7, o8, o9⟩, s0, s1⟩ := HALL3.out _ kk) | (go_at_call_of 11 (Value.int IntKind.u64 (a : Int)); refine (q5.out _).mono ?_; rintro e w9 ⟨rfl, hb9⟩; have kk := kk.trans (hb9.mono kk.size); obtain ⟨⟨o0, o1, o2, o3, o4, o5, o6, o7, o8, o9⟩, s0, s1⟩ := HALL3.out _ kk) | (go_at_call 22; refine (awake5_any _).mono ?_; rintro e w9 ⟨rfl, hb9⟩; have kk := kk.trans (hb9.mono kk.size)))
  go_ret
  exact ⟨rfl, HB3.out.trans (kk.mono HB3.out.size)⟩

set_option maxRecDepth 100000 in
set_option maxHeartbeats 4000000 in
theorem ternWithin_flip (a b c d a2 b2 c2 d2 x y : Nat) (w : World) (ha : a < 18446744073709551616) (hb : b < 18446744073709551616) (hc : c < 18446744073709551616) (hd : d < 18446744073709551616) (ha2 : a2 < 18446744073709551616) (hb2 : b2 < 18446744073709551616) (hc2 : c2 < 18446744073709551616) (hd2 : d2 < 18446744073709551616) (hx : x < 18446744073709551616) (hy : y < 18446744073709551616) (hz : twz a b c d a2 b2 c2 d2 = false) (hh : thz a2 b2 c2 d2 (a &&& c) (b &&& d) = true) :
    Calls Try.prog 5 #[td a b c d, td a2 b2 c2 d2, wd x y] w fun e w' => e = .returned (.bool true) ∧ Below w.heap.size w w' := by
  have q1 := fun w => twithin_z a b c d a2 b2 c2 d2 w ha hb hc hd ha2 hb2 hc2 hd2
  rw [hz] at q1
  have q1 := hide_ q1
  have q2 := hide_ (fun w => tclean_any a b c d w ha hb hc hd)
  have hn0 := own_bits a b c d a2 b2 c2 d2 hc hd hc2 hd2 hz hh
  have q3 := hide_ (fun w => tbits_head a b c d a2 b2 c2 d2 w ha hb hc hd ha2 hb2 hc2 hd2 hn0)
  have q4 := fun w => thas_z a2 b2 c2 d2 (a &&& c) (b &&& d) w ha2 hb2 hc2 hd2 (and_lt _ _ ha) (and_lt _ _ hb)
  rw [hh] at q4
  have q4 := hide_ q4
  obtain ⟨ht, hb1, -⟩ := top_spec (andn c2 c) (andn d2 d) (tandn_lt _ _ hc2) (tandn_lt _ _ hd2) hn0
  generalize top (andn c2 c) (andn d2 d) = t at *
  rw [less_hasb c2 d2 c d t hc hd ht] at hb1
  simp only [Bool.and_eq_true, Bool.not_eq_true'] at hb1
  have q5 := fun w => thas_z a b c d ((a &&& c) ^^^ bh t) ((b &&& d) ^^^ bl t) w ha hb hc hd (xor_lt _ _ (and_lt _ _ ha) (bh_lt t ht)) (xor_lt _ _ (and_lt _ _ hb) (bl_lt t))
  rw [flip_a a b c d t hb1.2] at q5
  have q5 := hide_ q5
  have q6 := fun w => thas_z a2 b2 c2 d2 ((a &&& c) ^^^ bh t) ((b &&& d) ^^^ bl t) w ha2 hb2 hc2 hd2 (xor_lt _ _ (and_lt _ _ ha) (bh_lt t ht)) (xor_lt _ _ (and_lt _ _ hb) (bl_lt t))
  rw [flip_b a2 b2 c2 d2 (a &&& c) (b &&& d) t hb1.1 hh] at q6
  have q6 := hide_ q6
  have q7 := hide_ (fun w => bit_nat t w ht)
  have q8 := hide_ (fun w => xor_any (a &&& c) (b &&& d) (bh t) (bl t) w (and_lt _ _ ha) (and_lt _ _ hb) (bh_lt t ht) (bl_lt t))
  have hf0 := fun x y c d w => fld0 x y c d w
  clear hz hh hn0 hb1 ht ha hb hc hd ha2 hb2 hc2 hd2 hx hy
  generalize (a &&& c) ^^^ bh t = X1 at *
  generalize (b &&& d) ^^^ bl t = X2 at *
  generalize a &&& c = p at *
  generalize b &&& d = q at *
  generalize bh t = h1 at *
  generalize bl t = h2 at *
  unfold td at *
  unfold wd at *
  have HA := hide_ (((AB.at0 w 26 [.int .u64 (a : Int), .int .u64 (b : Int), .int .u64 (c : Int), .int .u64 (d : Int)]).alloc (.cells #[.int .u64 (a2 : Int), .int .u64 (b2 : Int), .int .u64 (c2 : Int), .int .u64 (d2 : Int)] 26)).alloc (.cells #[.int .u64 (x : Int), .int .u64 (y : Int)] 24))
  have HC := hide_ ((AB.at1 w (.cells #[.int .u64 (a : Int), .int .u64 (b : Int), .int .u64 (c : Int), .int .u64 (d : Int)] 26) 26 [.int .u64 (a2 : Int), .int .u64 (b2 : Int), .int .u64 (c2 : Int), .int .u64 (d2 : Int)]).alloc (.cells #[.int .u64 (x : Int), .int .u64 (y : Int)] 24))
  have HV := hide_ (AB.at2 w (.cells #[.int .u64 (a : Int), .int .u64 (b : Int), .int .u64 (c : Int), .int .u64 (d : Int)] 26) (.cells #[.int .u64 (a2 : Int), .int .u64 (b2 : Int), .int .u64 (c2 : Int), .int .u64 (d2 : Int)] 26) 24 [.int .u64 (x : Int), .int .u64 (y : Int)])
  have HB := hide_ (below3 w (.cells #[.int .u64 (a : Int), .int .u64 (b : Int), .int .u64 (c : Int), .int .u64 (d : Int)] 26) (.cells #[.int .u64 (a2 : Int), .int .u64 (b2 : Int), .int .u64 (c2 : Int), .int .u64 (d2 : Int)] 26) (.cells #[.int .u64 (x : Int), .int .u64 (y : Int)] 24))
  have HALL : Hid (∀ w', Below (((w.alloc (.cells #[.int .u64 (a : Int), .int .u64 (b : Int), .int .u64 (c : Int), .int .u64 (d : Int)] 26)).alloc (.cells #[.int .u64 (a2 : Int), .int .u64 (b2 : Int), .int .u64 (c2 : Int), .int .u64 (d2 : Int)] 26)).alloc (.cells #[.int .u64 (x : Int), .int .u64 (y : Int)] 24)).heap.size (((w.alloc (.cells #[.int .u64 (a : Int), .int .u64 (b : Int), .int .u64 (c : Int), .int .u64 (d : Int)] 26)).alloc (.cells #[.int .u64 (a2 : Int), .int .u64 (b2 : Int), .int .u64 (c2 : Int), .int .u64 (d2 : Int)] 26)).alloc (.cells #[.int .u64 (x : Int), .int .u64 (y : Int)] 24)) w' → w'.cell? ⟨w.heap.size, 0, none⟩ = some (.int .u64 (a : Int)) ∧ w'.cell? ⟨w.heap.size, 1, none⟩ = some (.int .u64 (b : Int)) ∧ w'.cell? ⟨w.heap.size, 2, none⟩ = some (.int .u64 (c : Int)) ∧ w'.cell? ⟨w.heap.size, 3, none⟩ = some (.int .u64 (d : Int)) ∧ w'.cell? ⟨w.heap.size + 1, 0, none⟩ = some (.int .u64 (a2 : Int)) ∧ w'.cell? ⟨w.heap.size + 1, 1, none⟩ = some (.int .u64 (b2 : Int)) ∧ w'.cell? ⟨w.heap.size + 1, 2, none⟩ = some (.int .u64 (c2 : Int)) ∧ w'.cell? ⟨w.heap.size + 1, 3, none⟩ = some (.int .u64 (d2 : Int)) ∧ w'.cell? ⟨w.heap.size + 1 + 1, 0, none⟩ = some (.int .u64 (x : Int)) ∧ w'.cell? ⟨w.heap.size + 1 + 1, 1, none⟩ = some (.int .u64 (y : Int))) := hide_ (fun w' k => by
    obtain ⟨p0, p1, p2, p3, -⟩ := (HA.out.later k).four
    obtain ⟨p4, p5, p6, p7, -⟩ := (HC.out.later k).four
    obtain ⟨p8, p9, -⟩ := (HV.out.later k).two
    exact ⟨p0, p1, p2, p3, p4, p5, p6, p7, p8, p9⟩)
  clear HA HC HV
  go_enter Try.func5, Try.ntmps5
  go_wp2_with fail
  generalize (((w.alloc (.cells #[.int .u64 (a : Int), .int .u64 (b : Int), .int .u64 (c : Int), .int .u64 (d : Int)] 26)).alloc (.cells #[.int .u64 (a2 : Int), .int .u64 (b2 : Int), .int .u64 (c2 : Int), .int .u64 (d2 : Int)] 26)).alloc (.cells #[.int .u64 (x : Int), .int .u64 (y : Int)] 24)) = W at *
  have kk : Below W.heap.size W W := Below.refl _ _
  go_wp2_with (first | (go_at_call 13; refine (q1.out _).mono ?_; rintro e w9 ⟨rfl, hb9⟩; have kk := kk.trans (hb9.mono kk.size); obtain ⟨o0, o1, o2, o3, o4, o5, o6, o7, o8, o9⟩ := HALL.out _ kk) | (go_at_call 18; refine (q2.out _).mono ?_; rintro e w2 ⟨rfl, bq2⟩; have k2 := kk.trans (bq2.mono kk.size); obtain ⟨o0, o1, o2, o3, o4, o5, o6, o7, o8, o9⟩ := HALL.out _ (k2.alloc k2.size (.cells #[.int .u64 (p : Int), .int .u64 (q : Int)] 24))))
  have hn : w.heap.size ≤ w2.heap.size := Nat.le_trans HB.out.size k2.size
  have hn3 : w.heap.size + 1 + 1 < w2.heap.size := Nat.lt_of_lt_of_le (World.block_lt_of_cell? _ _ (HALL.out _ (Below.refl _ _)).2.2.2.2.2.2.2.2.1) k2.size
  have HB3 := hide_ (HB.out.trans ((k2.alloc k2.size (.cells #[.int .u64 (p : Int), .int .u64 (q : Int)] 24)).mono HB.out.size))
  have HALL3 : Hid (∀ w', Below (w2.alloc (.cells #[.int .u64 (p : Int), .int .u64 (q : Int)] 24)).heap.size (w2.alloc (.cells #[.int .u64 (p : Int), .int .u64 (q : Int)] 24)) w' → (w'.cell? ⟨w.heap.size, 0, none⟩ = some (.int .u64 (a : Int)) ∧ w'.cell? ⟨w.heap.size, 1, none⟩ = some (.int .u64 (b : Int)) ∧ w'.cell? ⟨w.heap.size, 2, none⟩ = some (.int .u64 (c : Int)) ∧ w'.cell? ⟨w.heap.size, 3, none⟩ = some (.int .u64 (d : Int)) ∧ w'.cell? ⟨w.heap.size + 1, 0, none⟩ = some (.int .u64 (a2 : Int)) ∧ w'.cell? ⟨w.heap.size + 1, 1, none⟩ = some (.int .u64 (b2 : Int)) ∧ w'.cell? ⟨w.heap.size + 1, 2, none⟩ = some (.int .u64 (c2 : Int)) ∧ w'.cell? ⟨w.heap.size + 1, 3, none⟩ = some (.int .u64 (d2 : Int)) ∧ w'.cell? ⟨w.heap.size + 1 + 1, 0, none⟩ = some (.int .u64 (x : Int)) ∧ w'.cell? ⟨w.heap.size + 1 + 1, 1, none⟩ = some (.int .u64 (y : Int))) ∧ w'.cell? ⟨w2.heap.size, 0, none⟩ = some (.int .u64 (p : Int)) ∧ w'.cell? ⟨w2.heap.size, 1, none⟩ = some (.int .u64 (q : Int))) := hide_ (fun w' k => by
    obtain ⟨r0, r1, -⟩ := ((AB.at0 w2 24 [.int .u64 (p : Int), .int .u64 (q : Int)]).later k).two
    have k3 := k2.alloc k2.size (.cells #[.int .u64 (p : Int), .int .u64 (q : Int)] 24)
    exact ⟨HALL.out _ (k3.trans (k.mono k3.size)), r0, r1⟩)
  have HP3 := hide_ (AB.at0 w2 24 [.int .u64 (p : Int), .int .u64 (q : Int)])
  clear HALL HB k2 bq2 kk hb9
  generalize w2.alloc (.cells #[.int .u64 (p : Int), .int .u64 (q : Int)] 24) = V at *
  generalize w2.heap.size = n at *
  have kk : Below V.heap.size V V := Below.refl _ _
  obtain ⟨⟨o0, o1, o2, o3, o4, o5, o6, o7, o8, o9⟩, s0, s1⟩ := HALL3.out _ kk
  go_wp2_with fail
  refine (q3.out _).mono ?_
  rintro e w3 ⟨bk, off, k, cap, rfl, cl3, b3⟩
  have kk3 := kk.trans (b3.mono kk.size)
  obtain ⟨⟨o0, o1, o2, o3, o4, o5, o6, o7, o8, o9⟩, s0, s1⟩ := HALL3.out _ kk3
  have hk0 : (0 : Int) < (k : Int) + 1 := by omega
  clear kk
  have kk := kk3
  clear kk3
  go_wp2_with (first | (go_at_call_of 11 (Value.int IntKind.u64 (a2 : Int)); refine (q4.out _).mono ?_; rintro e w4 ⟨rfl, hb9⟩; have cl4 := cell_later hb9 cl3; have kk := kk.trans (hb9.mono kk.size); obtain ⟨⟨o0, o1, o2, o3, o4, o5, o6, o7, o8, o9⟩, s0, s1⟩ := HALL3.out _ kk))
  go_region_with (first | (go_at_call 24; refine (q7.out _).mono ?_; rintro e w5 ⟨rfl, b5⟩; have k5 := kk.trans (((Below.refl _ _).drew.trans b5).mono kk.size); obtain ⟨⟨o0, o1, o2, o3, o4, o5, o6, o7, o8, o9⟩, s0, s1⟩ := HALL3.out _ k5) | (go_at_call 23; refine (q8.out _).mono ?_; rintro e w6 ⟨rfl, b6⟩; have k6 := k5.trans (b6.mono k5.size); obtain ⟨s0, s1, s2, s3⟩ := (HP3.out.later k6).two))
  all_goals
    have HP6 := hide_ (((HP3.out.later k6).set (j := 0) (.int .u64 (X1 : Int))).set (j := 1) (.int .u64 (X2 : Int)))
    have HB6 := hide_ (((HB3.out.trans (k6.mono HB3.out.size)).setCell (p := ⟨n, 0, none⟩) hn (.int .u64 (X1 : Int))).setCell (p := ⟨n, 1, none⟩) hn (.int .u64 (X2 : Int)))
    have HC6 : Hid (((w6.setCell ⟨n, 0, none⟩ (.int .u64 (X1 : Int))).setCell ⟨n, 1, none⟩ (.int .u64 (X2 : Int))).cell? ⟨w.heap.size, 0, none⟩ = some (.int .u64 (a : Int)) ∧ ((w6.setCell ⟨n, 0, none⟩ (.int .u64 (X1 : Int))).setCell ⟨n, 1, none⟩ (.int .u64 (X2 : Int))).cell? ⟨w.heap.size, 1, none⟩ = some (.int .u64 (b : Int)) ∧ ((w6.setCell ⟨n, 0, none⟩ (.int .u64 (X1 : Int))).setCell ⟨n, 1, none⟩ (.int .u64 (X2 : Int))).cell? ⟨w.heap.size, 2, none⟩ = some (.int .u64 (c : Int)) ∧ ((w6.setCell ⟨n, 0, none⟩ (.int .u64 (X1 : Int))).setCell ⟨n, 1, none⟩ (.int .u64 (X2 : Int))).cell? ⟨w.heap.size, 3, none⟩ = some (.int .u64 (d : Int)) ∧ ((w6.setCell ⟨n, 0, none⟩ (.int .u64 (X1 : Int))).setCell ⟨n, 1, none⟩ (.int .u64 (X2 : Int))).cell? ⟨w.heap.size + 1, 0, none⟩ = some (.int .u64 (a2 : Int)) ∧ ((w6.setCell ⟨n, 0, none⟩ (.int .u64 (X1 : Int))).setCell ⟨n, 1, none⟩ (.int .u64 (X2 : Int))).cell? ⟨w.heap.size + 1, 1, none⟩ = some (.int .u64 (b2 : Int)) ∧ ((w6.setCell ⟨n, 0, none⟩ (.int .u64 (X1 : Int))).setCell ⟨n, 1, none⟩ (.int .u64 (X2 : Int))).cell? ⟨w.heap.size + 1, 2, none⟩ = some (.int .u64 (c2 : Int)) ∧ ((w6.setCell ⟨n, 0, none⟩ (.int .u64 (X1 : Int))).setCell ⟨n, 1, none⟩ (.int .u64 (X2 : Int))).cell? ⟨w.heap.size + 1, 3, none⟩ = some (.int .u64 (d2 : Int)) ∧ ((w6.setCell ⟨n, 0, none⟩ (.int .u64 (X1 : Int))).setCell ⟨n, 1, none⟩ (.int .u64 (X2 : Int))).cell? ⟨w.heap.size + 1 + 1, 0, none⟩ = some (.int .u64 (x : Int)) ∧ ((w6.setCell ⟨n, 0, none⟩ (.int .u64 (X1 : Int))).setCell ⟨n, 1, none⟩ (.int .u64 (X2 : Int))).cell? ⟨w.heap.size + 1 + 1, 1, none⟩ = some (.int .u64 (y : Int))) := hide_ (by
      obtain ⟨⟨o0, o1, o2, o3, o4, o5, o6, o7, o8, o9⟩, -, -⟩ := HALL3.out _ k6
      exact ⟨(cell_fill2 (by dsimp only; omega) _ _).trans o0, (cell_fill2 (by dsimp only; omega) _ _).trans o1, (cell_fill2 (by dsimp only; omega) _ _).trans o2, (cell_fill2 (by dsimp only; omega) _ _).trans o3, (cell_fill2 (by dsimp only; omega) _ _).trans o4, (cell_fill2 (by dsimp only; omega) _ _).trans o5, (cell_fill2 (by dsimp only; omega) _ _).trans o6, (cell_fill2 (by dsimp only; omega) _ _).trans o7, (cell_fill2 (by dsimp only; omega) _ _).trans o8, (cell_fill2 (by dsimp only; omega) _ _).trans o9⟩)
    clear HALL3 HP3 HB3 k6 b6 k5 b5 kk s0 s1 s2 s3 o0 o1 o2 o3 o4 o5 o6 o7 o8 o9 cl3 cl4 hb9
    generalize ((w6.setCell ⟨n, 0, none⟩ (.int .u64 (X1 : Int))).setCell ⟨n, 1, none⟩ (.int .u64 (X2 : Int))) = V2 at *
    have HALL4 : Hid (∀ w', Below V2.heap.size V2 w' → (w'.cell? ⟨w.heap.size, 0, none⟩ = some (.int .u64 (a : Int)) ∧ w'.cell? ⟨w.heap.size, 1, none⟩ = some (.int .u64 (b : Int)) ∧ w'.cell? ⟨w.heap.size, 2, none⟩ = some (.int .u64 (c : Int)) ∧ w'.cell? ⟨w.heap.size, 3, none⟩ = some (.int .u64 (d : Int)) ∧ w'.cell? ⟨w.heap.size + 1, 0, none⟩ = some (.int .u64 (a2 : Int)) ∧ w'.cell? ⟨w.heap.size + 1, 1, none⟩ = some (.int .u64 (b2 : Int)) ∧ w'.cell? ⟨w.heap.size + 1, 2, none⟩ = some (.int .u64 (c2 : Int)) ∧ w'.cell? ⟨w.heap.size + 1, 3, none⟩ = some (.int .u64 (d2 : Int)) ∧ w'.cell? ⟨w.heap.size + 1 + 1, 0, none⟩ = some (.int .u64 (x : Int)) ∧ w'.cell? ⟨w.heap.size + 1 + 1, 1, none⟩ = some (.int .u64 (y : Int))) ∧ w'.cell? ⟨n, 0, none⟩ = some (.int .u64 (X1 : Int)) ∧ w'.cell? ⟨n, 1, none⟩ = some (.int .u64 (X2 : Int))) := hide_ (fun w' k => by
      obtain ⟨o0, o1, o2, o3, o4, o5, o6, o7, o8, o9⟩ := HC6.out
      obtain ⟨r0, r1, -⟩ := (HP6.out.later k).two
      exact ⟨⟨cell_later k o0, cell_later k o1, cell_later k o2, cell_later k o3, cell_later k o4, cell_later k o5, cell_later k o6, cell_later k o7, cell_later k o8, cell_later k o9⟩, r0, r1⟩)
    clear HC6 HP6
    have kk : Below V2.heap.size V2 V2 := Below.refl _ _
    obtain ⟨⟨o0, o1, o2, o3, o4, o5, o6, o7, o8, o9⟩, s0, s1⟩ := HALL4.out _ kk
    go_wp2_with (first | (go_at_call_of 11 (Value.int IntKind.u64 (a : Int)); refine (q5.out _).mono ?_; rintro e w9 ⟨rfl, hb9⟩; have kk := kk.trans (hb9.mono kk.size); obtain ⟨⟨o0, o1, o2, o3, o4, o5, o6, o7, o8, o9⟩, s0, s1⟩ := HALL4.out _ kk) | (go_at_call_of 11 (Value.int IntKind.u64 (a2 : Int)); refine (q6.out _).mono ?_; rintro e w9 ⟨rfl, hb9⟩; have kk := kk.trans (hb9.mono kk.size); obtain ⟨⟨o0, o1, o2, o3, o4, o5, o6, o7, o8, o9⟩, s0, s1⟩ := HALL4.out _ kk) | (go_at_call 22; refine (awake5_any _).mono ?_; rintro e w9 ⟨rfl, hb9⟩; have kk := kk.trans (hb9.mono kk.size)))
    go_ret
    exact ⟨rfl, HB6.out.trans (kk.mono HB6.out.size)⟩

theorem ternWithin_walk (a b c d a2 b2 c2 d2 x y : Nat) (w : World) (ha : a < 18446744073709551616) (hb : b < 18446744073709551616) (hc : c < 18446744073709551616) (hd : d < 18446744073709551616) (ha2 : a2 < 18446744073709551616) (hb2 : b2 < 18446744073709551616) (hc2 : c2 < 18446744073709551616) (hd2 : d2 < 18446744073709551616) (hx : x < 18446744073709551616) (hy : y < 18446744073709551616) :
    Calls Try.prog 5 #[td a b c d, td a2 b2 c2 d2, wd x y] w fun e w' => e = .returned (.bool true) ∧ Below w.heap.size w w' := by
  cases hz : twz a b c d a2 b2 c2 d2
  · cases hh : thz a2 b2 c2 d2 (a &&& c) (b &&& d)
    · exact ternWithin_out a b c d a2 b2 c2 d2 x y w ha hb hc hd ha2 hb2 hc2 hd2 hx hy hz hh
    · exact ternWithin_flip a b c d a2 b2 c2 d2 x y w ha hb hc hd ha2 hb2 hc2 hd2 hx hy hz hh
  · exact ternWithin_in a b c d a2 b2 c2 d2 x y w ha hb hc hd ha2 hb2 hc2 hd2 hx hy hz


end Go.Proofs.Ytabeahglfhhfmaa
