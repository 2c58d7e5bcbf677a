import Derived.Test.YtickphnfgaibiabProg
import Derived.Test.YtickphnfgaibiabK
import Derived.Test.YtickphnfgaibiabR
import Derived.Test.YtickphnfgaibiabU
import Derived.Test.YtickphnfgaibiabHa
import Derived.Test.YtickphnfgaibiabHg
import Derived.Test.YtickphnfgaibiabHr
import Derived.Test.YtickphnfgaibiabTa
import Derived.Test.YtickphnfgaibiabGa
import Derived.Test.YtickphnfgaibiabTb
import Derived.Below
import Derived.BigQuiet
import Derived.BigRegion
import Derived.ChangeAlike
import Derived.ChangeKeysEq
import Derived.ChangeSame
import Derived.DataElems
import Derived.Deep.MidRow
import Derived.Deep.QuietTactic
import Derived.Deep.RegionHeld
import Derived.Deep.RegionHeld3
import Derived.Deep.RegionLaw
import Derived.Deep.RegionLawGrows
import Derived.Deep.RegionWith
import Derived.Deep.WholeRow
import Derived.Great.BuildSlice
import Derived.Handy
import Derived.Laws.AppendOwn
import Derived.Laws.AppendOwnNone
import Derived.Laws.BitsAllLaws
import Derived.Laws.BitsLemmas
import Derived.Laws.CopyOwn
import Derived.Laws.OwnMore
import Derived.Laws.Rows
import Derived.Laws.StructEq
import Derived.Laws.Tables
import Derived.Lib.BitFns
import Derived.Lib.SmallJoins
import Derived.OpenShut
import Derived.ProofKit
import Derived.RegionTactic
import Derived.WalkKit
import Derived.WalkLawsBesides
import Derived.WalkSmall
import Derived.WalkSpells
import Derived.WideShapes
namespace Go.Proofs.Ytickphnfgaibiab
open Go Go.RowKit
set_option linter.unusedVariables false
set_option linter.unusedSimpArgs false

def fixv (x h : Nat) (on : Bool) : Nat := match on with | true => x ||| h | false => andn x h

theorem tandn_lt (a c : Nat) (h : a < 18446744073709551616) : andn a c < 18446744073709551616 := Nat.lt_of_le_of_lt Nat.and_le_left h

theorem andn_or (x h : Nat) (hx : x < 18446744073709551616) (hh : h < 18446744073709551616) : andn x h ||| h = x ||| h := by
  apply Nat.eq_of_testBit_eq
  intro i
  rw [Nat.testBit_or, Nat.testBit_or, tb_andn x h hh]
  by_cases hi : i < 64
  · cases x.testBit i <;> cases h.testBit i <;> simp [hi]
  · rw [tb_high x i hx (by omega)]; simp

set_option maxRecDepth 100000 in
set_option maxHeartbeats 1000000 in
theorem twithin_any (a b c d a2 b2 c2 d2 : Nat) (w : World) (ha : a < 18446744073709551616) (hb : b < 18446744073709551616) (hc : c < 18446744073709551616) (hd : d < 18446744073709551616) (ha2 : a2 < 18446744073709551616) (hb2 : b2 < 18446744073709551616) (hc2 : c2 < 18446744073709551616) (hd2 : d2 < 18446744073709551616) :
    Calls Try.prog 81 #[td a b c d, td a2 b2 c2 d2] w fun e w' => e = .returned (.bool ((andn c2 c == 0 && andn d2 d == 0) && ((a ^^^ a2) &&& c2 == 0 && (b ^^^ b2) &&& d2 == 0))) ∧ Below w.heap.size w w' := by
  have q1 := hide_ (fun w => less_any c2 d2 c d w hc2 hd2 hc hd)
  have q2 := hide_ (fun w => zero_any (andn c2 c) (andn d2 d) w)
  have q3 := fun w => thas_any a2 b2 c2 d2 a b w ha2 hb2 hc2 hd2 ha hb
  rw [Nat.xor_comm a2 a, Nat.xor_comm b2 b] at q3
  have Q3 := hide_ q3
  clear q3
  generalize ((a ^^^ a2) &&& c2 == 0 && (b ^^^ b2) &&& d2 == 0) = y at *
  generalize hz : (andn c2 c == 0 && andn d2 d == 0) = z at *
  clear hz
  generalize andn c2 c = n1 at *
  generalize andn d2 d = n2 at *
  clear ha hb hc hd ha2 hb2 hc2 hd2
  unfold td at *
  unfold wd at *
  have HA := hide_ ((AB.at0 w 26 [.int .u64 (a : Int), .int .u64 (b : Int), .int .u64 (c : Int), .int .u64 (d : Int)]).alloc (.cells #[.int .u64 (a2 : Int), .int .u64 (b2 : Int), .int .u64 (c2 : Int), .int .u64 (d2 : Int)] 26))
  have HC := hide_ (AB.at1 w (.cells #[.int .u64 (a : Int), .int .u64 (b : Int), .int .u64 (c : Int), .int .u64 (d : Int)] 26) 26 [.int .u64 (a2 : Int), .int .u64 (b2 : Int), .int .u64 (c2 : Int), .int .u64 (d2 : Int)])
  have HB := hide_ (below2 w (.cells #[.int .u64 (a : Int), .int .u64 (b : Int), .int .u64 (c : Int), .int .u64 (d : Int)] 26) (.cells #[.int .u64 (a2 : Int), .int .u64 (b2 : Int), .int .u64 (c2 : Int), .int .u64 (d2 : Int)] 26))
  cases z
  · go_enter Try.func81, Try.ntmps81
    go_wp2_with (first | (go_at_call 48; refine (q1.out _).mono ?_; rintro e w1 ⟨rfl, b1⟩) | (go_at_call 49; refine (q2.out _).mono ?_; rintro e w2 ⟨rfl, b2⟩))
    go_ret
    exact ⟨rfl, HB.out.trans ((b1.trans (b2.mono b1.size)).mono HB.out.size)⟩
  · go_enter Try.func81, Try.ntmps81
    go_wp2_with (first | (go_at_call 48; refine (q1.out _).mono ?_; rintro e w1 ⟨rfl, b1⟩) | (go_at_call 49; refine (q2.out _).mono ?_; rintro e w2 ⟨rfl, b2⟩; have k2 := b1.trans (b2.mono b1.size); obtain ⟨o0, o1, o2, o3, -⟩ := (HA.out.later k2).four; obtain ⟨i0, i1, i2, i3, -⟩ := (HC.out.later k2).four) | (go_at_call 41; refine (Q3.out _).mono ?_; rintro e w3 ⟨rfl, b3⟩))
    go_ret
    exact ⟨by first | rfl | simp, HB.out.trans ((k2.trans (b3.mono k2.size)).mono HB.out.size)⟩

set_option maxRecDepth 100000 in
set_option maxHeartbeats 2000000 in
theorem rtwithin_any (a b c d a2 b2 c2 d2 : Nat) (w : World) (ha : a < 18446744073709551616) (hb : b < 18446744073709551616) (hc : c < 18446744073709551616) (hd : d < 18446744073709551616) (ha2 : a2 < 18446744073709551616) (hb2 : b2 < 18446744073709551616) (hc2 : c2 < 18446744073709551616) (hd2 : d2 < 18446744073709551616) :
    Calls Try.prog 68 #[td a b c d, td a2 b2 c2 d2] w fun e w' => e = .returned (.bool ((andn c2 c == 0 && andn d2 d == 0) && ((a ^^^ a2) &&& c2 == 0 && (b ^^^ b2) &&& d2 == 0))) ∧ Below w.heap.size w w' := by
  have q1 := hide_ (fun w => rless_any c2 d2 c d w hc2 hd2 hc hd)
  have q2 := hide_ (fun w => rzero_any (andn c2 c) (andn d2 d) w)
  have q3 := hide_ (fun w => rxor_any a b a2 b2 w ha hb ha2 hb2)
  have q4 := hide_ (fun w => rand_any (a ^^^ a2) (b ^^^ b2) c2 d2 w (xor_lt _ _ ha ha2) (xor_lt _ _ hb hb2) hc2 hd2)
  have q5 := hide_ (fun w => rzero_any ((a ^^^ a2) &&& c2) ((b ^^^ b2) &&& d2) w)
  generalize hy : ((a ^^^ a2) &&& c2 == 0 && (b ^^^ b2) &&& d2 == 0) = y at *
  generalize hz : (andn c2 c == 0 && andn d2 d == 0) = z at *
  clear hz hy
  generalize andn c2 c = n1 at *
  generalize andn d2 d = n2 at *
  generalize (a ^^^ a2) &&& c2 = m1 at *
  generalize (b ^^^ b2) &&& d2 = m2 at *
  generalize a ^^^ a2 = v1 at *
  generalize b ^^^ b2 = v2 at *
  clear ha hb hc hd ha2 hb2 hc2 hd2
  unfold td at *
  unfold wd at *
  have HB := hide_ (below2 w (.cells #[.int .u64 (a : Int), .int .u64 (b : Int), .int .u64 (c : Int), .int .u64 (d : Int)] 26) (.cells #[.int .u64 (a2 : Int), .int .u64 (b2 : Int), .int .u64 (c2 : Int), .int .u64 (d2 : Int)] 26))
  obtain ⟨o0, o1, o2, o3, -⟩ := ((AB.at0 w 26 [.int .u64 (a : Int), .int .u64 (b : Int), .int .u64 (c : Int), .int .u64 (d : Int)]).alloc (.cells #[.int .u64 (a2 : Int), .int .u64 (b2 : Int), .int .u64 (c2 : Int), .int .u64 (d2 : Int)] 26)).four
  obtain ⟨i0, i1, i2, i3, -⟩ := (AB.at1 w (.cells #[.int .u64 (a : Int), .int .u64 (b : Int), .int .u64 (c : Int), .int .u64 (d : Int)] 26) 26 [.int .u64 (a2 : Int), .int .u64 (b2 : Int), .int .u64 (c2 : Int), .int .u64 (d2 : Int)]).four
  cases z
  · go_enter Try.func68, Try.ntmps68
    go_wp2_with fail
    refine wp_region_held_drew (S := (fun w' => w'.cell? ⟨w.heap.size, 0, none⟩ = some (.int .u64 (a : Int)) ∧ w'.cell? ⟨w.heap.size, 1, none⟩ = some (.int .u64 (b : Int)) ∧ w'.cell? ⟨w.heap.size, 2, none⟩ = some (.int .u64 (c : Int)) ∧ w'.cell? ⟨w.heap.size, 3, none⟩ = some (.int .u64 (d : Int)) ∧ w'.cell? ⟨w.heap.size + 1, 0, none⟩ = some (.int .u64 (a2 : Int)) ∧ w'.cell? ⟨w.heap.size + 1, 1, none⟩ = some (.int .u64 (b2 : Int)) ∧ w'.cell? ⟨w.heap.size + 1, 2, none⟩ = some (.int .u64 (c2 : Int)) ∧ w'.cell? ⟨w.heap.size + 1, 3, none⟩ = some (.int .u64 (d2 : Int)) ∧ Below w.heap.size w w')) (by kernel_rfl) (⟨o0, o1, o2, o3, i0, i1, i2, i3, HB.out.drew⟩) (fun hHeld => ?_)
    refine takeR (i := 0) (v := ?_) rfl (by kernel_rfl) (by kernel_rfl) (by kernel_rfl) (some 5) rfl (Or.inl ⟨by rfl, ?_⟩) (fun _ _ _ h => h) (by assumption) ?_
    rotate_left
    · intro w hSw; (try dsimp only at hSw); go_simp; (try with_reducible rfl)
    simp only [Act.put, List.setIfInBounds_toArray, List.set_cons_zero, List.set_cons_succ]
    refine takeR (i := 1) (v := ?_) rfl (by kernel_rfl) (by kernel_rfl) (by kernel_rfl) (some 6) rfl (Or.inl ⟨by rfl, ?_⟩) (fun _ _ _ h => h) (by assumption) ?_
    rotate_left
    · intro w hSw; (try dsimp only at hSw); go_simp; (try with_reducible rfl)
    simp only [Act.put, List.setIfInBounds_toArray, List.set_cons_zero, List.set_cons_succ]
    refine takeR (i := 2) (v := ?_) rfl (by kernel_rfl) (by kernel_rfl) (by kernel_rfl) (some 7) rfl (Or.inl ⟨by rfl, ?_⟩) (fun _ _ _ h => h) (by assumption) ?_
    rotate_left
    · intro w hSw; (try dsimp only at hSw); go_simp; (try with_reducible rfl)
    simp only [Act.put, List.setIfInBounds_toArray, List.set_cons_zero, List.set_cons_succ]
    refine takeR (i := 3) (v := ?_) rfl (by kernel_rfl) (by kernel_rfl) (by kernel_rfl) (some 8) rfl (Or.inl ⟨by rfl, ?_⟩) (fun _ _ _ h => h) (by assumption) ?_
    rotate_left
    · intro w hSw; (try dsimp only at hSw); go_simp; (try with_reducible rfl)
    simp only [Act.put, List.setIfInBounds_toArray, List.set_cons_zero, List.set_cons_succ]
    refine wpAnyH_ready (rs := [4]) (by kernel_rfl) (by simp) (AllReadyH.cons rfl (fun K hK => ?_) AllReadyH.nil)
    go_simp
    refine (q1.out _).mono ?_
    rintro e w1 ⟨rfl, b1⟩
    refine hK.out _ _ (keepA8 b1 hHeld) (fun hHeld => ?_)
    clear hK K
    try simp only [Act.put, List.setIfInBounds_toArray, List.set_cons_zero, List.set_cons_succ]
    refine wpAnyH_ready (rs := [5]) (by kernel_rfl) (by simp) (AllReadyH.cons rfl (fun K hK => ?_) AllReadyH.nil)
    go_simp
    refine (q2.out _).mono ?_
    rintro e w2 ⟨rfl, b2⟩
    refine hK.out _ _ (keepA8 b2 hHeld) (fun hHeld => ?_)
    clear hK K
    try simp only [Act.put, List.setIfInBounds_toArray, List.set_cons_zero, List.set_cons_succ]
    refine takeR (i := 6) (v := ?_) rfl (by kernel_rfl) (by kernel_rfl) (by kernel_rfl) (some 11) rfl (Or.inl ⟨by rfl, ?_⟩) (fun _ _ _ h => h) (by assumption) ?_
    rotate_left
    · intro w hSw; (try dsimp only at hSw); go_simp; (try with_reducible rfl)
    simp only [Act.put, List.setIfInBounds_toArray, List.set_cons_zero, List.set_cons_succ]
    refine takeR (i := 7) (v := undef) rfl (by kernel_rfl) (by kernel_rfl) (by kernel_rfl) (some 12) rfl (Or.inr ⟨by rfl, rfl⟩) (fun _ _ _ h => h) (by assumption) ?_
    simp only [Act.put, List.setIfInBounds_toArray, List.set_cons_zero, List.set_cons_succ]
    refine takeR (i := 8) (v := undef) rfl (by kernel_rfl) (by kernel_rfl) (by kernel_rfl) (some 13) rfl (Or.inr ⟨by rfl, rfl⟩) (fun _ _ _ h => h) (by assumption) ?_
    simp only [Act.put, List.setIfInBounds_toArray, List.set_cons_zero, List.set_cons_succ]
    refine takeR (i := 9) (v := undef) rfl (by kernel_rfl) (by kernel_rfl) (by kernel_rfl) (some 14) rfl (Or.inr ⟨by rfl, rfl⟩) (fun _ _ _ h => h) (by assumption) ?_
    simp only [Act.put, List.setIfInBounds_toArray, List.set_cons_zero, List.set_cons_succ]
    refine takeR (i := 10) (v := undef) rfl (by kernel_rfl) (by kernel_rfl) (by kernel_rfl) (some 15) rfl (Or.inr ⟨by rfl, rfl⟩) (fun _ _ _ h => h) (by assumption) ?_
    simp only [Act.put, List.setIfInBounds_toArray, List.set_cons_zero, List.set_cons_succ]
    refine takeR (i := 11) (v := undef) rfl (by kernel_rfl) (by kernel_rfl) (by kernel_rfl) (some 16) rfl (Or.inr ⟨by rfl, rfl⟩) (fun _ _ _ h => h) (by assumption) ?_
    simp only [Act.put, List.setIfInBounds_toArray, List.set_cons_zero, List.set_cons_succ]
    refine takeR (i := 12) (v := undef) rfl (by kernel_rfl) (by kernel_rfl) (by kernel_rfl) (some 17) rfl (Or.inr ⟨by rfl, rfl⟩) (fun _ _ _ h => h) (by assumption) ?_
    simp only [Act.put, List.setIfInBounds_toArray, List.set_cons_zero, List.set_cons_succ]
    refine takeR (i := 13) (v := undef) rfl (by kernel_rfl) (by kernel_rfl) (by kernel_rfl) (some 18) rfl (Or.inr ⟨by rfl, rfl⟩) (fun _ _ _ h => h) (by assumption) ?_
    simp only [Act.put, List.setIfInBounds_toArray, List.set_cons_zero, List.set_cons_succ]
    refine takeR (i := 14) (v := undef) rfl (by kernel_rfl) (by kernel_rfl) (by kernel_rfl) (some 19) rfl (Or.inr ⟨by rfl, rfl⟩) (fun _ _ _ h => h) (by assumption) ?_
    simp only [Act.put, List.setIfInBounds_toArray, List.set_cons_zero, List.set_cons_succ]
    refine takeR (i := 15) (v := undef) rfl (by kernel_rfl) (by kernel_rfl) (by kernel_rfl) (some 20) rfl (Or.inr ⟨by rfl, rfl⟩) (fun _ _ _ h => h) (by assumption) ?_
    simp only [Act.put, List.setIfInBounds_toArray, List.set_cons_zero, List.set_cons_succ]
    refine takeR (i := 16) (v := ?_) rfl (by kernel_rfl) (by kernel_rfl) (by kernel_rfl) (some 21) rfl (Or.inl ⟨by rfl, ?_⟩) (fun _ _ _ h => h) (by assumption) ?_
    rotate_left
    · intro w hSw; (try dsimp only at hSw); go_simp; (try with_reducible rfl)
    simp only [Act.put, List.setIfInBounds_toArray, List.set_cons_zero, List.set_cons_succ]
    refine takeR (i := 17) (v := ?_) rfl (by kernel_rfl) (by kernel_rfl) (by kernel_rfl) (some 4) rfl (Or.inl ⟨by rfl, ?_⟩) (fun _ _ _ h => h) (by assumption) ?_
    rotate_left
    · intro w hSw; (try dsimp only at hSw); go_simp; (try with_reducible rfl)
    simp only [Act.put, List.setIfInBounds_toArray, List.set_cons_zero, List.set_cons_succ]
    refine wpAnyH_done (by kernel_rfl) ?_ _
    have bel := hHeld.2.2.2.2.2.2.2.2
    clear hHeld
    go_wp2_with fail
    go_ret
    exact ⟨by first | rfl | simp, bel⟩
  · go_enter Try.func68, Try.ntmps68
    go_wp2_with fail
    go_region_held3 (fun w' => w'.cell? ⟨w.heap.size, 0, none⟩ = some (.int .u64 (a : Int)) ∧ w'.cell? ⟨w.heap.size, 1, none⟩ = some (.int .u64 (b : Int)) ∧ w'.cell? ⟨w.heap.size, 2, none⟩ = some (.int .u64 (c : Int)) ∧ w'.cell? ⟨w.heap.size, 3, none⟩ = some (.int .u64 (d : Int)) ∧ w'.cell? ⟨w.heap.size + 1, 0, none⟩ = some (.int .u64 (a2 : Int)) ∧ w'.cell? ⟨w.heap.size + 1, 1, none⟩ = some (.int .u64 (b2 : Int)) ∧ w'.cell? ⟨w.heap.size + 1, 2, none⟩ = some (.int .u64 (c2 : Int)) ∧ w'.cell? ⟨w.heap.size + 1, 3, none⟩ = some (.int .u64 (d2 : Int)) ∧ Below w.heap.size w w')
      (first | (with_reducible exact keepA8 (by assumption) (by assumption)) | (exact ⟨o0, o1, o2, o3, i0, i1, i2, i3, HB.out.drew⟩) | (exact ⟨o0, o1, o2, o3, i0, i1, i2, i3, HB.out⟩))
      (first | (go_at_call 82; refine (q1.out _).mono ?_; rintro e w' ⟨rfl, hb⟩) | (go_at_call_of 75 (Value.int IntKind.u64 (n1 : Int)); refine (q2.out _).mono ?_; rintro e w' ⟨rfl, hb⟩) | (go_at_call 76; refine (q3.out _).mono ?_; rintro e w' ⟨rfl, hb⟩) | (go_at_call 74; refine (q4.out _).mono ?_; rintro e w' ⟨rfl, hb⟩) | (go_at_call_of 75 (Value.int IntKind.u64 (m1 : Int)); refine (q5.out _).mono ?_; rintro e w' ⟨rfl, hb⟩))
    rename_i hH
    have bel := hH.2.2.2.2.2.2.2.2
    clear hH
    go_wp2_with fail
    go_ret
    exact ⟨by first | rfl | simp, bel⟩

set_option maxRecDepth 100000 in
set_option maxHeartbeats 2000000 in
theorem tfix_any (a b c d : Nat) (i : Int) (on : Bool) (w : World) (ha : a < 18446744073709551616) (hb : b < 18446744073709551616) (hc : c < 18446744073709551616) (hd : d < 18446744073709551616) :
    Calls Try.prog 32 #[td a b c d, .int .i64 i, .bool on] w fun e w' => e = .returned (td (fixv (a &&& c) (bhz i) on) (fixv (b &&& d) (blz i) on) (c ||| bhz i) (d ||| blz i)) ∧ Below w.heap.size w w' := by
  have q1 := hide_ (fun w => tclean_any a b c d w ha hb hc hd)
  have q2 := hide_ (fun w => bit_any i w)
  have q3 := hide_ (fun w => or_any c d (bhz i) (blz i) w hc hd (bhz_lt i) (blz_lt i))
  have q4 := (fun w => or_any (a &&& c) (b &&& d) (bhz i) (blz i) w (and_lt _ _ ha) (and_lt _ _ hb) (bhz_lt i) (blz_lt i))
  have q5 := hide_ (fun w => less_any (a &&& c) (b &&& d) (bhz i) (blz i) w (and_lt _ _ ha) (and_lt _ _ hb) (bhz_lt i) (blz_lt i))
  have q4 := hide_ q4
  have e1 : fixv (a &&& c) (bhz i) true = (a &&& c) ||| bhz i := rfl
  have e2 : fixv (b &&& d) (blz i) true = (b &&& d) ||| blz i := rfl
  have e3 : fixv (a &&& c) (bhz i) false = andn (a &&& c) (bhz i) := rfl
  have e4 : fixv (b &&& d) (blz i) false = andn (b &&& d) (blz i) := rfl
  cases on
  all_goals first | rw [e3, e4] | rw [e1, e2]
  all_goals
    clear e1 e2 e3 e4
    generalize bhz i = h1 at *
    generalize blz i = h2 at *
    generalize (a &&& c) ||| h1 = r1 at *
    generalize (b &&& d) ||| h2 = r2 at *
    generalize andn (a &&& c) h1 = l1 at *
    generalize andn (b &&& d) h2 = l2 at *
    generalize c ||| h1 = m1 at *
    generalize d ||| h2 = m2 at *
    generalize a &&& c = x1 at *
    generalize b &&& d = x2 at *
    clear ha hb hc hd
    unfold td at *
    unfold wd at *
  · have A := (AB.at0 w 26 [.int .u64 (a : Int), .int .u64 (b : Int), .int .u64 (c : Int), .int .u64 (d : Int)]).alloc (.cells #[.int .u64 (0 : Int), .int .u64 (0 : Int), .int .u64 (0 : Int), .int .u64 (0 : Int)] 26)
    have Z := AB.at1 w (.cells #[.int .u64 (a : Int), .int .u64 (b : Int), .int .u64 (c : Int), .int .u64 (d : Int)] 26) 26 [.int .u64 (0 : Int), .int .u64 (0 : Int), .int .u64 (0 : Int), .int .u64 (0 : Int)]
    have B := below2 w (.cells #[.int .u64 (a : Int), .int .u64 (b : Int), .int .u64 (c : Int), .int .u64 (d : Int)] 26) (.cells #[.int .u64 (0 : Int), .int .u64 (0 : Int), .int .u64 (0 : Int), .int .u64 (0 : Int)] 26)
    have HA := hide_ A
    have HZ := hide_ Z
    have HB := hide_ B
    clear A Z B
    go_enter Try.func32, Try.ntmps32
    go_wp2_with fail
    have A := HA.out
    have Z := HZ.out
    have B := HB.out
    clear HA HZ HB
    generalize ((w.alloc (.cells #[.int .u64 (a : Int), .int .u64 (b : Int), .int .u64 (c : Int), .int .u64 (d : Int)] 26)).alloc (.cells #[.int .u64 (0 : Int), .int .u64 (0 : Int), .int .u64 (0 : Int), .int .u64 (0 : Int)] 26)) = W at *
    refine (q1.out _).mono ?_
    rintro e w1 ⟨rfl, b1⟩
    have A1 := A.later b1
    have Z1 := Z.later b1
    have B1 := B.trans (b1.mono B.size)
    obtain ⟨o0, o1, o2, o3, o4, o5, o6, o7⟩ := A1.four
    have A2 := ((((A1.set (j := 0) (.int .u64 (x1 : Int))).set (j := 1) (.int .u64 (x2 : Int))).set (j := 2) (.int .u64 (c : Int))).set (j := 3) (.int .u64 (d : Int)))
    have Z2 := ((((Z1.far (.int .u64 (x1 : Int)) (f := w.heap.size) (o := 0) (by omega)).far (.int .u64 (x2 : Int)) (f := w.heap.size) (o := 1) (by omega)).far (.int .u64 (c : Int)) (f := w.heap.size) (o := 2) (by omega)).far (.int .u64 (d : Int)) (f := w.heap.size) (o := 3) (by omega))
    have B2 := ((((B1.setCell (p := ⟨w.heap.size, 0, none⟩) (Nat.le_refl _) (.int .u64 (x1 : Int))).setCell (p := ⟨w.heap.size, 1, none⟩) (Nat.le_refl _) (.int .u64 (x2 : Int))).setCell (p := ⟨w.heap.size, 2, none⟩) (Nat.le_refl _) (.int .u64 (c : Int))).setCell (p := ⟨w.heap.size, 3, none⟩) (Nat.le_refl _) (.int .u64 (d : Int)))
    obtain ⟨i0, i1, i2, i3, -⟩ := A2.four
    obtain ⟨s0, s1, s2, s3, s4, s5, s6, s7⟩ := Z2.four
    clear A B Z b1 B1 Z1 A1
    have HA := hide_ A2
    have HZ := hide_ Z2
    have HB := hide_ B2
    clear A2 Z2 B2
    go_wp2_with fail
    have A := HA.out
    have Z := HZ.out
    have B := HB.out
    clear HA HZ HB o0 o1 o2 o3 o4 o5 o6 o7 i0 i1 i2 i3 s0 s1 s2 s3 s4 s5 s6 s7
    generalize ((((w1.setCell ⟨w.heap.size, 0, none⟩ (.int .u64 (x1 : Int))).setCell ⟨w.heap.size, 1, none⟩ (.int .u64 (x2 : Int))).setCell ⟨w.heap.size, 2, none⟩ (.int .u64 (c : Int))).setCell ⟨w.heap.size, 3, none⟩ (.int .u64 (d : Int))) = W at *
    clear w1
    refine (q2.out _).mono ?_
    rintro e w1 ⟨rfl, b1⟩
    have A2 := (A.later b1).alloc (.cells #[.int .u64 (h1 : Int), .int .u64 (h2 : Int)] 24)
    have Z2 := (Z.later b1).alloc (.cells #[.int .u64 (h1 : Int), .int .u64 (h2 : Int)] 24)
    have B1 := B.trans (b1.mono B.size)
    have B2 := B1.alloc B1.size (.cells #[.int .u64 (h1 : Int), .int .u64 (h2 : Int)] 24)
    have K2 := AB.at0 w1 24 [.int .u64 (h1 : Int), .int .u64 (h2 : Int)]
    obtain ⟨i0, i1, i2, i3, -⟩ := A2.four
    obtain ⟨k0, k1, -⟩ := K2.two
    have hn : w.heap.size + 1 < w1.heap.size := Nat.lt_of_lt_of_le Z.lt b1.size
    clear A B Z b1 B1
    have HA := hide_ A2
    have HZ := hide_ Z2
    have HB := hide_ B2
    have HK := hide_ K2
    clear A2 Z2 B2 K2
    go_wp2_with fail
    have A := HA.out
    have Z := HZ.out
    have B := HB.out
    have K := HK.out
    clear HA HZ HB HK i0 i1 i2 i3 k0 k1
    generalize w1.alloc (.cells #[.int .u64 (h1 : Int), .int .u64 (h2 : Int)] 24) = W at *
    generalize w1.heap.size = n at *
    clear w1
    refine (q3.out _).mono ?_
    rintro e w1 ⟨rfl, b1⟩
    have A1 := A.later b1
    have Z1 := Z.later b1
    have B1 := B.trans (b1.mono B.size)
    have K1 := K.later b1
    obtain ⟨o0, o1, o2, o3, o4, o5, o6, o7⟩ := A1.four
    have A2 := ((A1.set (j := 2) (.int .u64 (m1 : Int))).set (j := 3) (.int .u64 (m2 : Int)))
    have Z2 := ((Z1.far (.int .u64 (m1 : Int)) (f := w.heap.size) (o := 2) (by omega)).far (.int .u64 (m2 : Int)) (f := w.heap.size) (o := 3) (by omega))
    have B2 := ((B1.setCell (p := ⟨w.heap.size, 2, none⟩) (Nat.le_refl _) (.int .u64 (m1 : Int))).setCell (p := ⟨w.heap.size, 3, none⟩) (Nat.le_refl _) (.int .u64 (m2 : Int)))
    have K2 := ((K1.far (.int .u64 (m1 : Int)) (f := w.heap.size) (o := 2) (by omega)).far (.int .u64 (m2 : Int)) (f := w.heap.size) (o := 3) (by omega))
    obtain ⟨i0, i1, i2, i3, -⟩ := A2.four
    obtain ⟨k0, k1, -⟩ := K2.two
    obtain ⟨s0, s1, s2, s3, s4, s5, s6, s7⟩ := Z2.four
    clear A B Z K b1 B1 Z1 A1 K1
    have HA := hide_ A2
    have HZ := hide_ Z2
    have HB := hide_ B2
    have HK := hide_ K2
    clear A2 Z2 B2 K2
    go_wp2_with fail
    have A := HA.out
    have Z := HZ.out
    have B := HB.out
    have K := HK.out
    clear HA HZ HB HK o0 o1 o2 o3 o4 o5 o6 o7 i0 i1 i2 i3 s0 s1 s2 s3 s4 s5 s6 s7 k0 k1
    generalize ((w1.setCell ⟨w.heap.size, 2, none⟩ (.int .u64 (m1 : Int))).setCell ⟨w.heap.size, 3, none⟩ (.int .u64 (m2 : Int))) = W at *
    clear w1
    refine (q5.out _).mono ?_
    rintro e w1 ⟨rfl, b1⟩
    have A1 := A.later b1
    have Z1 := Z.later b1
    have B1 := B.trans (b1.mono B.size)
    have K1 := K.later b1
    obtain ⟨o0, o1, o2, o3, o4, o5, o6, o7⟩ := A1.four
    have A2 := ((A1.set (j := 0) (.int .u64 (l1 : Int))).set (j := 1) (.int .u64 (l2 : Int)))
    have Z2 := ((Z1.far (.int .u64 (l1 : Int)) (f := w.heap.size) (o := 0) (by omega)).far (.int .u64 (l2 : Int)) (f := w.heap.size) (o := 1) (by omega))
    have B2 := ((B1.setCell (p := ⟨w.heap.size, 0, none⟩) (Nat.le_refl _) (.int .u64 (l1 : Int))).setCell (p := ⟨w.heap.size, 1, none⟩) (Nat.le_refl _) (.int .u64 (l2 : Int)))
    have K2 := ((K1.far (.int .u64 (l1 : Int)) (f := w.heap.size) (o := 0) (by omega)).far (.int .u64 (l2 : Int)) (f := w.heap.size) (o := 1) (by omega))
    obtain ⟨i0, i1, i2, i3, -⟩ := A2.four
    obtain ⟨k0, k1, -⟩ := K2.two
    obtain ⟨s0, s1, s2, s3, s4, s5, s6, s7⟩ := Z2.four
    clear A B Z K b1 B1 Z1 A1 K1
    have HA := hide_ A2
    have HZ := hide_ Z2
    have HB := hide_ B2
    have HK := hide_ K2
    clear A2 Z2 B2 K2
    go_wp2_with fail
    have G := HZ.out.room.fill (.int .u64 (l1 : Int)) (.int .u64 (l2 : Int)) (.int .u64 (m1 : Int)) (.int .u64 (m2 : Int))
    have BB := below_fill HB.out (g := w.heap.size + 1) (Nat.le_succ _) (.int .u64 (l1 : Int)) (.int .u64 (l2 : Int)) (.int .u64 (m1 : Int)) (.int .u64 (m2 : Int))
    obtain ⟨g0, g1, g2, g3, -⟩ := G.four
    exact bodyPost_ret (v := .agg #[.int .u64 (l1 : Int), .int .u64 (l2 : Int), .int .u64 (m1 : Int), .int .u64 (m2 : Int)]) (by simp [results, Try.results32, go_sem, g0, g1, g2, g3]) rfl ⟨rfl, BB⟩
  · have A := (AB.at0 w 26 [.int .u64 (a : Int), .int .u64 (b : Int), .int .u64 (c : Int), .int .u64 (d : Int)]).alloc (.cells #[.int .u64 (0 : Int), .int .u64 (0 : Int), .int .u64 (0 : Int), .int .u64 (0 : Int)] 26)
    have Z := AB.at1 w (.cells #[.int .u64 (a : Int), .int .u64 (b : Int), .int .u64 (c : Int), .int .u64 (d : Int)] 26) 26 [.int .u64 (0 : Int), .int .u64 (0 : Int), .int .u64 (0 : Int), .int .u64 (0 : Int)]
    have B := below2 w (.cells #[.int .u64 (a : Int), .int .u64 (b : Int), .int .u64 (c : Int), .int .u64 (d : Int)] 26) (.cells #[.int .u64 (0 : Int), .int .u64 (0 : Int), .int .u64 (0 : Int), .int .u64 (0 : Int)] 26)
    have HA := hide_ A
    have HZ := hide_ Z
    have HB := hide_ B
    clear A Z B
    go_enter Try.func32, Try.ntmps32
    go_wp2_with fail
    have A := HA.out
    have Z := HZ.out
    have B := HB.out
    clear HA HZ HB
    generalize ((w.alloc (.cells #[.int .u64 (a : Int), .int .u64 (b : Int), .int .u64 (c : Int), .int .u64 (d : Int)] 26)).alloc (.cells #[.int .u64 (0 : Int), .int .u64 (0 : Int), .int .u64 (0 : Int), .int .u64 (0 : Int)] 26)) = W at *
    refine (q1.out _).mono ?_
    rintro e w1 ⟨rfl, b1⟩
    have A1 := A.later b1
    have Z1 := Z.later b1
    have B1 := B.trans (b1.mono B.size)
    obtain ⟨o0, o1, o2, o3, o4, o5, o6, o7⟩ := A1.four
    have A2 := ((((A1.set (j := 0) (.int .u64 (x1 : Int))).set (j := 1) (.int .u64 (x2 : Int))).set (j := 2) (.int .u64 (c : Int))).set (j := 3) (.int .u64 (d : Int)))
    have Z2 := ((((Z1.far (.int .u64 (x1 : Int)) (f := w.heap.size) (o := 0) (by omega)).far (.int .u64 (x2 : Int)) (f := w.heap.size) (o := 1) (by omega)).far (.int .u64 (c : Int)) (f := w.heap.size) (o := 2) (by omega)).far (.int .u64 (d : Int)) (f := w.heap.size) (o := 3) (by omega))
    have B2 := ((((B1.setCell (p := ⟨w.heap.size, 0, none⟩) (Nat.le_refl _) (.int .u64 (x1 : Int))).setCell (p := ⟨w.heap.size, 1, none⟩) (Nat.le_refl _) (.int .u64 (x2 : Int))).setCell (p := ⟨w.heap.size, 2, none⟩) (Nat.le_refl _) (.int .u64 (c : Int))).setCell (p := ⟨w.heap.size, 3, none⟩) (Nat.le_refl _) (.int .u64 (d : Int)))
    obtain ⟨i0, i1, i2, i3, -⟩ := A2.four
    obtain ⟨s0, s1, s2, s3, s4, s5, s6, s7⟩ := Z2.four
    clear A B Z b1 B1 Z1 A1
    have HA := hide_ A2
    have HZ := hide_ Z2
    have HB := hide_ B2
    clear A2 Z2 B2
    go_wp2_with fail
    have A := HA.out
    have Z := HZ.out
    have B := HB.out
    clear HA HZ HB o0 o1 o2 o3 o4 o5 o6 o7 i0 i1 i2 i3 s0 s1 s2 s3 s4 s5 s6 s7
    generalize ((((w1.setCell ⟨w.heap.size, 0, none⟩ (.int .u64 (x1 : Int))).setCell ⟨w.heap.size, 1, none⟩ (.int .u64 (x2 : Int))).setCell ⟨w.heap.size, 2, none⟩ (.int .u64 (c : Int))).setCell ⟨w.heap.size, 3, none⟩ (.int .u64 (d : Int))) = W at *
    clear w1
    refine (q2.out _).mono ?_
    rintro e w1 ⟨rfl, b1⟩
    have A2 := (A.later b1).alloc (.cells #[.int .u64 (h1 : Int), .int .u64 (h2 : Int)] 24)
    have Z2 := (Z.later b1).alloc (.cells #[.int .u64 (h1 : Int), .int .u64 (h2 : Int)] 24)
    have B1 := B.trans (b1.mono B.size)
    have B2 := B1.alloc B1.size (.cells #[.int .u64 (h1 : Int), .int .u64 (h2 : Int)] 24)
    have K2 := AB.at0 w1 24 [.int .u64 (h1 : Int), .int .u64 (h2 : Int)]
    obtain ⟨i0, i1, i2, i3, -⟩ := A2.four
    obtain ⟨k0, k1, -⟩ := K2.two
    have hn : w.heap.size + 1 < w1.heap.size := Nat.lt_of_lt_of_le Z.lt b1.size
    clear A B Z b1 B1
    have HA := hide_ A2
    have HZ := hide_ Z2
    have HB := hide_ B2
    have HK := hide_ K2
    clear A2 Z2 B2 K2
    go_wp2_with fail
    have A := HA.out
    have Z := HZ.out
    have B := HB.out
    have K := HK.out
    clear HA HZ HB HK i0 i1 i2 i3 k0 k1
    generalize w1.alloc (.cells #[.int .u64 (h1 : Int), .int .u64 (h2 : Int)] 24) = W at *
    generalize w1.heap.size = n at *
    clear w1
    refine (q3.out _).mono ?_
    rintro e w1 ⟨rfl, b1⟩
    have A1 := A.later b1
    have Z1 := Z.later b1
    have B1 := B.trans (b1.mono B.size)
    have K1 := K.later b1
    obtain ⟨o0, o1, o2, o3, o4, o5, o6, o7⟩ := A1.four
    have A2 := ((A1.set (j := 2) (.int .u64 (m1 : Int))).set (j := 3) (.int .u64 (m2 : Int)))
    have Z2 := ((Z1.far (.int .u64 (m1 : Int)) (f := w.heap.size) (o := 2) (by omega)).far (.int .u64 (m2 : Int)) (f := w.heap.size) (o := 3) (by omega))
    have B2 := ((B1.setCell (p := ⟨w.heap.size, 2, none⟩) (Nat.le_refl _) (.int .u64 (m1 : Int))).setCell (p := ⟨w.heap.size, 3, none⟩) (Nat.le_refl _) (.int .u64 (m2 : Int)))
    have K2 := ((K1.far (.int .u64 (m1 : Int)) (f := w.heap.size) (o := 2) (by omega)).far (.int .u64 (m2 : Int)) (f := w.heap.size) (o := 3) (by omega))
    obtain ⟨i0, i1, i2, i3, -⟩ := A2.four
    obtain ⟨k0, k1, -⟩ := K2.two
    obtain ⟨s0, s1, s2, s3, s4, s5, s6, s7⟩ := Z2.four
    clear A B Z K b1 B1 Z1 A1 K1
    have HA := hide_ A2
    have HZ := hide_ Z2
    have HB := hide_ B2
    have HK := hide_ K2
    clear A2 Z2 B2 K2
    go_wp2_with fail
    have A := HA.out
    have Z := HZ.out
    have B := HB.out
    have K := HK.out
    clear HA HZ HB HK o0 o1 o2 o3 o4 o5 o6 o7 i0 i1 i2 i3 s0 s1 s2 s3 s4 s5 s6 s7 k0 k1
    generalize ((w1.setCell ⟨w.heap.size, 2, none⟩ (.int .u64 (m1 : Int))).setCell ⟨w.heap.size, 3, none⟩ (.int .u64 (m2 : Int))) = W at *
    clear w1
    refine (q4.out _).mono ?_
    rintro e w1 ⟨rfl, b1⟩
    have A1 := A.later b1
    have Z1 := Z.later b1
    have B1 := B.trans (b1.mono B.size)
    have K1 := K.later b1
    obtain ⟨o0, o1, o2, o3, o4, o5, o6, o7⟩ := A1.four
    have A2 := ((A1.set (j := 0) (.int .u64 (r1 : Int))).set (j := 1) (.int .u64 (r2 : Int)))
    have Z2 := ((Z1.far (.int .u64 (r1 : Int)) (f := w.heap.size) (o := 0) (by omega)).far (.int .u64 (r2 : Int)) (f := w.heap.size) (o := 1) (by omega))
    have B2 := ((B1.setCell (p := ⟨w.heap.size, 0, none⟩) (Nat.le_refl _) (.int .u64 (r1 : Int))).setCell (p := ⟨w.heap.size, 1, none⟩) (Nat.le_refl _) (.int .u64 (r2 : Int)))
    have K2 := ((K1.far (.int .u64 (r1 : Int)) (f := w.heap.size) (o := 0) (by omega)).far (.int .u64 (r2 : Int)) (f := w.heap.size) (o := 1) (by omega))
    obtain ⟨i0, i1, i2, i3, -⟩ := A2.four
    obtain ⟨k0, k1, -⟩ := K2.two
    obtain ⟨s0, s1, s2, s3, s4, s5, s6, s7⟩ := Z2.four
    clear A B Z K b1 B1 Z1 A1 K1
    have HA := hide_ A2
    have HZ := hide_ Z2
    have HB := hide_ B2
    have HK := hide_ K2
    clear A2 Z2 B2 K2
    go_wp2_with fail
    have G := HZ.out.room.fill (.int .u64 (r1 : Int)) (.int .u64 (r2 : Int)) (.int .u64 (m1 : Int)) (.int .u64 (m2 : Int))
    have BB := below_fill HB.out (g := w.heap.size + 1) (Nat.le_succ _) (.int .u64 (r1 : Int)) (.int .u64 (r2 : Int)) (.int .u64 (m1 : Int)) (.int .u64 (m2 : Int))
    obtain ⟨g0, g1, g2, g3, -⟩ := G.four
    exact bodyPost_ret (v := .agg #[.int .u64 (r1 : Int), .int .u64 (r2 : Int), .int .u64 (m1 : Int), .int .u64 (m2 : Int)]) (by simp [results, Try.results32, go_sem, g0, g1, g2, g3]) rfl ⟨rfl, BB⟩

set_option maxRecDepth 100000 in
set_option maxHeartbeats 2000000 in
theorem rtfix_any (a b c d : Nat) (i : Int) (on : Bool) (w : World) (ha : a < 18446744073709551616) (hb : b < 18446744073709551616) (hc : c < 18446744073709551616) (hd : d < 18446744073709551616) :
    Calls Try.prog 73 #[td a b c d, .int .i64 i, .bool on] w fun e w' => e = .returned (td (fixv (a &&& c) (bhz i) on) (fixv (b &&& d) (blz i) on) (c ||| bhz i) (d ||| blz i)) ∧ Below w.heap.size w w' := by
  have q1 := hide_ (fun w => rtclean_any a b c d w ha hb hc hd)
  have q2 := hide_ (fun w => rbit_any i w)
  have q3 := hide_ (fun w => ror_any c d (bhz i) (blz i) w hc hd (bhz_lt i) (blz_lt i))
  have q4 := (fun w => ror_any (andn (a &&& c) (bhz i)) (andn (b &&& d) (blz i)) (bhz i) (blz i) w (tandn_lt _ _ (and_lt _ _ ha)) (tandn_lt _ _ (and_lt _ _ hb)) (bhz_lt i) (blz_lt i))
  rw [andn_or _ _ (and_lt _ _ ha) (bhz_lt i), andn_or _ _ (and_lt _ _ hb) (blz_lt i)] at q4
  have q5 := hide_ (fun w => rless_any (a &&& c) (b &&& d) (bhz i) (blz i) w (and_lt _ _ ha) (and_lt _ _ hb) (bhz_lt i) (blz_lt i))
  have q4 := hide_ q4
  have e1 : fixv (a &&& c) (bhz i) true = (a &&& c) ||| bhz i := rfl
  have e2 : fixv (b &&& d) (blz i) true = (b &&& d) ||| blz i := rfl
  have e3 : fixv (a &&& c) (bhz i) false = andn (a &&& c) (bhz i) := rfl
  have e4 : fixv (b &&& d) (blz i) false = andn (b &&& d) (blz i) := rfl
  cases on
  all_goals first | rw [e3, e4] | rw [e1, e2]
  all_goals
    clear e1 e2 e3 e4
    generalize bhz i = h1 at *
    generalize blz i = h2 at *
    generalize (a &&& c) ||| h1 = r1 at *
    generalize (b &&& d) ||| h2 = r2 at *
    generalize andn (a &&& c) h1 = l1 at *
    generalize andn (b &&& d) h2 = l2 at *
    generalize c ||| h1 = m1 at *
    generalize d ||| h2 = m2 at *
    generalize a &&& c = x1 at *
    generalize b &&& d = x2 at *
    clear ha hb hc hd
    unfold td at *
    unfold wd at *
  · have A := (AB.at0 w 26 [.int .u64 (a : Int), .int .u64 (b : Int), .int .u64 (c : Int), .int .u64 (d : Int)]).alloc (.cells #[.int .u64 (0 : Int), .int .u64 (0 : Int), .int .u64 (0 : Int), .int .u64 (0 : Int)] 26)
    have Z := AB.at1 w (.cells #[.int .u64 (a : Int), .int .u64 (b : Int), .int .u64 (c : Int), .int .u64 (d : Int)] 26) 26 [.int .u64 (0 : Int), .int .u64 (0 : Int), .int .u64 (0 : Int), .int .u64 (0 : Int)]
    have B := below2 w (.cells #[.int .u64 (a : Int), .int .u64 (b : Int), .int .u64 (c : Int), .int .u64 (d : Int)] 26) (.cells #[.int .u64 (0 : Int), .int .u64 (0 : Int), .int .u64 (0 : Int), .int .u64 (0 : Int)] 26)
    have HA := hide_ A
    have HZ := hide_ Z
    have HB := hide_ B
    clear A Z B
    go_enter Try.func73, Try.ntmps73
    go_wp2_with fail
    have A := HA.out
    have Z := HZ.out
    have B := HB.out
    clear HA HZ HB
    generalize ((w.alloc (.cells #[.int .u64 (a : Int), .int .u64 (b : Int), .int .u64 (c : Int), .int .u64 (d : Int)] 26)).alloc (.cells #[.int .u64 (0 : Int), .int .u64 (0 : Int), .int .u64 (0 : Int), .int .u64 (0 : Int)] 26)) = W at *
    refine (q1.out _).mono ?_
    rintro e w1 ⟨rfl, b1⟩
    have A1 := A.later b1
    have Z1 := Z.later b1
    have B1 := B.trans (b1.mono B.size)
    obtain ⟨o0, o1, o2, o3, o4, o5, o6, o7⟩ := A1.four
    have A2 := ((((A1.set (j := 0) (.int .u64 (x1 : Int))).set (j := 1) (.int .u64 (x2 : Int))).set (j := 2) (.int .u64 (c : Int))).set (j := 3) (.int .u64 (d : Int)))
    have Z2 := ((((Z1.far (.int .u64 (x1 : Int)) (f := w.heap.size) (o := 0) (by omega)).far (.int .u64 (x2 : Int)) (f := w.heap.size) (o := 1) (by omega)).far (.int .u64 (c : Int)) (f := w.heap.size) (o := 2) (by omega)).far (.int .u64 (d : Int)) (f := w.heap.size) (o := 3) (by omega))
    have B2 := ((((B1.setCell (p := ⟨w.heap.size, 0, none⟩) (Nat.le_refl _) (.int .u64 (x1 : Int))).setCell (p := ⟨w.heap.size, 1, none⟩) (Nat.le_refl _) (.int .u64 (x2 : Int))).setCell (p := ⟨w.heap.size, 2, none⟩) (Nat.le_refl _) (.int .u64 (c : Int))).setCell (p := ⟨w.heap.size, 3, none⟩) (Nat.le_refl _) (.int .u64 (d : Int)))
    obtain ⟨i0, i1, i2, i3, -⟩ := A2.four
    obtain ⟨s0, s1, s2, s3, s4, s5, s6, s7⟩ := Z2.four
    clear A B Z b1 B1 Z1 A1
    have HA := hide_ A2
    have HZ := hide_ Z2
    have HB := hide_ B2
    clear A2 Z2 B2
    go_wp2_with fail
    have A := HA.out
    have Z := HZ.out
    have B := HB.out
    clear HA HZ HB o0 o1 o2 o3 o4 o5 o6 o7 i0 i1 i2 i3 s0 s1 s2 s3 s4 s5 s6 s7
    generalize ((((w1.setCell ⟨w.heap.size, 0, none⟩ (.int .u64 (x1 : Int))).setCell ⟨w.heap.size, 1, none⟩ (.int .u64 (x2 : Int))).setCell ⟨w.heap.size, 2, none⟩ (.int .u64 (c : Int))).setCell ⟨w.heap.size, 3, none⟩ (.int .u64 (d : Int))) = W at *
    clear w1
    refine (q2.out _).mono ?_
    rintro e w1 ⟨rfl, b1⟩
    have A2 := (A.later b1).alloc (.cells #[.int .u64 (h1 : Int), .int .u64 (h2 : Int)] 24)
    have Z2 := (Z.later b1).alloc (.cells #[.int .u64 (h1 : Int), .int .u64 (h2 : Int)] 24)
    have B1 := B.trans (b1.mono B.size)
    have B2 := B1.alloc B1.size (.cells #[.int .u64 (h1 : Int), .int .u64 (h2 : Int)] 24)
    have K2 := AB.at0 w1 24 [.int .u64 (h1 : Int), .int .u64 (h2 : Int)]
    obtain ⟨i0, i1, i2, i3, -⟩ := A2.four
    obtain ⟨k0, k1, -⟩ := K2.two
    have hn : w.heap.size + 1 < w1.heap.size := Nat.lt_of_lt_of_le Z.lt b1.size
    clear A B Z b1 B1
    have HA := hide_ A2
    have HZ := hide_ Z2
    have HB := hide_ B2
    have HK := hide_ K2
    clear A2 Z2 B2 K2
    go_wp2_with fail
    have A := HA.out
    have Z := HZ.out
    have B := HB.out
    have K := HK.out
    clear HA HZ HB HK i0 i1 i2 i3 k0 k1
    generalize w1.alloc (.cells #[.int .u64 (h1 : Int), .int .u64 (h2 : Int)] 24) = W at *
    generalize w1.heap.size = n at *
    clear w1
    refine (q3.out _).mono ?_
    rintro e w1 ⟨rfl, b1⟩
    have A1 := A.later b1
    have Z1 := Z.later b1
    have B1 := B.trans (b1.mono B.size)
    have K1 := K.later b1
    obtain ⟨o0, o1, o2, o3, o4, o5, o6, o7⟩ := A1.four
    have A2 := ((A1.set (j := 2) (.int .u64 (m1 : Int))).set (j := 3) (.int .u64 (m2 : Int)))
    have Z2 := ((Z1.far (.int .u64 (m1 : Int)) (f := w.heap.size) (o := 2) (by omega)).far (.int .u64 (m2 : Int)) (f := w.heap.size) (o := 3) (by omega))
    have B2 := ((B1.setCell (p := ⟨w.heap.size, 2, none⟩) (Nat.le_refl _) (.int .u64 (m1 : Int))).setCell (p := ⟨w.heap.size, 3, none⟩) (Nat.le_refl _) (.int .u64 (m2 : Int)))
    have K2 := ((K1.far (.int .u64 (m1 : Int)) (f := w.heap.size) (o := 2) (by omega)).far (.int .u64 (m2 : Int)) (f := w.heap.size) (o := 3) (by omega))
    obtain ⟨i0, i1, i2, i3, -⟩ := A2.four
    obtain ⟨k0, k1, -⟩ := K2.two
    obtain ⟨s0, s1, s2, s3, s4, s5, s6, s7⟩ := Z2.four
    clear A B Z K b1 B1 Z1 A1 K1
    have HA := hide_ A2
    have HZ := hide_ Z2
    have HB := hide_ B2
    have HK := hide_ K2
    clear A2 Z2 B2 K2
    go_wp2_with fail
    have A := HA.out
    have Z := HZ.out
    have B := HB.out
    have K := HK.out
    clear HA HZ HB HK o0 o1 o2 o3 o4 o5 o6 o7 i0 i1 i2 i3 s0 s1 s2 s3 s4 s5 s6 s7 k0 k1
    generalize ((w1.setCell ⟨w.heap.size, 2, none⟩ (.int .u64 (m1 : Int))).setCell ⟨w.heap.size, 3, none⟩ (.int .u64 (m2 : Int))) = W at *
    clear w1
    refine (q5.out _).mono ?_
    rintro e w1 ⟨rfl, b1⟩
    have A1 := A.later b1
    have Z1 := Z.later b1
    have B1 := B.trans (b1.mono B.size)
    have K1 := K.later b1
    obtain ⟨o0, o1, o2, o3, o4, o5, o6, o7⟩ := A1.four
    have A2 := ((A1.set (j := 0) (.int .u64 (l1 : Int))).set (j := 1) (.int .u64 (l2 : Int)))
    have Z2 := ((Z1.far (.int .u64 (l1 : Int)) (f := w.heap.size) (o := 0) (by omega)).far (.int .u64 (l2 : Int)) (f := w.heap.size) (o := 1) (by omega))
    have B2 := ((B1.setCell (p := ⟨w.heap.size, 0, none⟩) (Nat.le_refl _) (.int .u64 (l1 : Int))).setCell (p := ⟨w.heap.size, 1, none⟩) (Nat.le_refl _) (.int .u64 (l2 : Int)))
    have K2 := ((K1.far (.int .u64 (l1 : Int)) (f := w.heap.size) (o := 0) (by omega)).far (.int .u64 (l2 : Int)) (f := w.heap.size) (o := 1) (by omega))
    obtain ⟨i0, i1, i2, i3, -⟩ := A2.four
    obtain ⟨k0, k1, -⟩ := K2.two
    obtain ⟨s0, s1, s2, s3, s4, s5, s6, s7⟩ := Z2.four
    clear A B Z K b1 B1 Z1 A1 K1
    have HA := hide_ A2
    have HZ := hide_ Z2
    have HB := hide_ B2
    have HK := hide_ K2
    clear A2 Z2 B2 K2
    go_wp2_with fail
    have G := HZ.out.room.fill (.int .u64 (l1 : Int)) (.int .u64 (l2 : Int)) (.int .u64 (m1 : Int)) (.int .u64 (m2 : Int))
    have BB := below_fill HB.out (g := w.heap.size + 1) (Nat.le_succ _) (.int .u64 (l1 : Int)) (.int .u64 (l2 : Int)) (.int .u64 (m1 : Int)) (.int .u64 (m2 : Int))
    obtain ⟨g0, g1, g2, g3, -⟩ := G.four
    exact bodyPost_ret (v := .agg #[.int .u64 (l1 : Int), .int .u64 (l2 : Int), .int .u64 (m1 : Int), .int .u64 (m2 : Int)]) (by simp [results, Try.results73, go_sem, g0, g1, g2, g3]) rfl ⟨rfl, BB⟩
  · have A := (AB.at0 w 26 [.int .u64 (a : Int), .int .u64 (b : Int), .int .u64 (c : Int), .int .u64 (d : Int)]).alloc (.cells #[.int .u64 (0 : Int), .int .u64 (0 : Int), .int .u64 (0 : Int), .int .u64 (0 : Int)] 26)
    have Z := AB.at1 w (.cells #[.int .u64 (a : Int), .int .u64 (b : Int), .int .u64 (c : Int), .int .u64 (d : Int)] 26) 26 [.int .u64 (0 : Int), .int .u64 (0 : Int), .int .u64 (0 : Int), .int .u64 (0 : Int)]
    have B := below2 w (.cells #[.int .u64 (a : Int), .int .u64 (b : Int), .int .u64 (c : Int), .int .u64 (d : Int)] 26) (.cells #[.int .u64 (0 : Int), .int .u64 (0 : Int), .int .u64 (0 : Int), .int .u64 (0 : Int)] 26)
    have HA := hide_ A
    have HZ := hide_ Z
    have HB := hide_ B
    clear A Z B
    go_enter Try.func73, Try.ntmps73
    go_wp2_with fail
    have A := HA.out
    have Z := HZ.out
    have B := HB.out
    clear HA HZ HB
    generalize ((w.alloc (.cells #[.int .u64 (a : Int), .int .u64 (b : Int), .int .u64 (c : Int), .int .u64 (d : Int)] 26)).alloc (.cells #[.int .u64 (0 : Int), .int .u64 (0 : Int), .int .u64 (0 : Int), .int .u64 (0 : Int)] 26)) = W at *
    refine (q1.out _).mono ?_
    rintro e w1 ⟨rfl, b1⟩
    have A1 := A.later b1
    have Z1 := Z.later b1
    have B1 := B.trans (b1.mono B.size)
    obtain ⟨o0, o1, o2, o3, o4, o5, o6, o7⟩ := A1.four
    have A2 := ((((A1.set (j := 0) (.int .u64 (x1 : Int))).set (j := 1) (.int .u64 (x2 : Int))).set (j := 2) (.int .u64 (c : Int))).set (j := 3) (.int .u64 (d : Int)))
    have Z2 := ((((Z1.far (.int .u64 (x1 : Int)) (f := w.heap.size) (o := 0) (by omega)).far (.int .u64 (x2 : Int)) (f := w.heap.size) (o := 1) (by omega)).far (.int .u64 (c : Int)) (f := w.heap.size) (o := 2) (by omega)).far (.int .u64 (d : Int)) (f := w.heap.size) (o := 3) (by omega))
    have B2 := ((((B1.setCell (p := ⟨w.heap.size, 0, none⟩) (Nat.le_refl _) (.int .u64 (x1 : Int))).setCell (p := ⟨w.heap.size, 1, none⟩) (Nat.le_refl _) (.int .u64 (x2 : Int))).setCell (p := ⟨w.heap.size, 2, none⟩) (Nat.le_refl _) (.int .u64 (c : Int))).setCell (p := ⟨w.heap.size, 3, none⟩) (Nat.le_refl _) (.int .u64 (d : Int)))
    obtain ⟨i0, i1, i2, i3, -⟩ := A2.four
    obtain ⟨s0, s1, s2, s3, s4, s5, s6, s7⟩ := Z2.four
    clear A B Z b1 B1 Z1 A1
    have HA := hide_ A2
    have HZ := hide_ Z2
    have HB := hide_ B2
    clear A2 Z2 B2
    go_wp2_with fail
    have A := HA.out
    have Z := HZ.out
    have B := HB.out
    clear HA HZ HB o0 o1 o2 o3 o4 o5 o6 o7 i0 i1 i2 i3 s0 s1 s2 s3 s4 s5 s6 s7
    generalize ((((w1.setCell ⟨w.heap.size, 0, none⟩ (.int .u64 (x1 : Int))).setCell ⟨w.heap.size, 1, none⟩ (.int .u64 (x2 : Int))).setCell ⟨w.heap.size, 2, none⟩ (.int .u64 (c : Int))).setCell ⟨w.heap.size, 3, none⟩ (.int .u64 (d : Int))) = W at *
    clear w1
    refine (q2.out _).mono ?_
    rintro e w1 ⟨rfl, b1⟩
    have A2 := (A.later b1).alloc (.cells #[.int .u64 (h1 : Int), .int .u64 (h2 : Int)] 24)
    have Z2 := (Z.later b1).alloc (.cells #[.int .u64 (h1 : Int), .int .u64 (h2 : Int)] 24)
    have B1 := B.trans (b1.mono B.size)
    have B2 := B1.alloc B1.size (.cells #[.int .u64 (h1 : Int), .int .u64 (h2 : Int)] 24)
    have K2 := AB.at0 w1 24 [.int .u64 (h1 : Int), .int .u64 (h2 : Int)]
    obtain ⟨i0, i1, i2, i3, -⟩ := A2.four
    obtain ⟨k0, k1, -⟩ := K2.two
    have hn : w.heap.size + 1 < w1.heap.size := Nat.lt_of_lt_of_le Z.lt b1.size
    clear A B Z b1 B1
    have HA := hide_ A2
    have HZ := hide_ Z2
    have HB := hide_ B2
    have HK := hide_ K2
    clear A2 Z2 B2 K2
    go_wp2_with fail
    have A := HA.out
    have Z := HZ.out
    have B := HB.out
    have K := HK.out
    clear HA HZ HB HK i0 i1 i2 i3 k0 k1
    generalize w1.alloc (.cells #[.int .u64 (h1 : Int), .int .u64 (h2 : Int)] 24) = W at *
    generalize w1.heap.size = n at *
    clear w1
    refine (q3.out _).mono ?_
    rintro e w1 ⟨rfl, b1⟩
    have A1 := A.later b1
    have Z1 := Z.later b1
    have B1 := B.trans (b1.mono B.size)
    have K1 := K.later b1
    obtain ⟨o0, o1, o2, o3, o4, o5, o6, o7⟩ := A1.four
    have A2 := ((A1.set (j := 2) (.int .u64 (m1 : Int))).set (j := 3) (.int .u64 (m2 : Int)))
    have Z2 := ((Z1.far (.int .u64 (m1 : Int)) (f := w.heap.size) (o := 2) (by omega)).far (.int .u64 (m2 : Int)) (f := w.heap.size) (o := 3) (by omega))
    have B2 := ((B1.setCell (p := ⟨w.heap.size, 2, none⟩) (Nat.le_refl _) (.int .u64 (m1 : Int))).setCell (p := ⟨w.heap.size, 3, none⟩) (Nat.le_refl _) (.int .u64 (m2 : Int)))
    have K2 := ((K1.far (.int .u64 (m1 : Int)) (f := w.heap.size) (o := 2) (by omega)).far (.int .u64 (m2 : Int)) (f := w.heap.size) (o := 3) (by omega))
    obtain ⟨i0, i1, i2, i3, -⟩ := A2.four
    obtain ⟨k0, k1, -⟩ := K2.two
    obtain ⟨s0, s1, s2, s3, s4, s5, s6, s7⟩ := Z2.four
    clear A B Z K b1 B1 Z1 A1 K1
    have HA := hide_ A2
    have HZ := hide_ Z2
    have HB := hide_ B2
    have HK := hide_ K2
    clear A2 Z2 B2 K2
    go_wp2_with fail
    have A := HA.out
    have Z := HZ.out
    have B := HB.out
    have K := HK.out
    clear HA HZ HB HK o0 o1 o2 o3 o4 o5 o6 o7 i0 i1 i2 i3 s0 s1 s2 s3 s4 s5 s6 s7 k0 k1
    generalize ((w1.setCell ⟨w.heap.size, 2, none⟩ (.int .u64 (m1 : Int))).setCell ⟨w.heap.size, 3, none⟩ (.int .u64 (m2 : Int))) = W at *
    clear w1
    refine (q5.out _).mono ?_
    rintro e w1 ⟨rfl, b1⟩
    have A1 := A.later b1
    have Z1 := Z.later b1
    have B1 := B.trans (b1.mono B.size)
    have K1 := K.later b1
    obtain ⟨o0, o1, o2, o3, o4, o5, o6, o7⟩ := A1.four
    have A2 := ((A1.set (j := 0) (.int .u64 (l1 : Int))).set (j := 1) (.int .u64 (l2 : Int)))
    have Z2 := ((Z1.far (.int .u64 (l1 : Int)) (f := w.heap.size) (o := 0) (by omega)).far (.int .u64 (l2 : Int)) (f := w.heap.size) (o := 1) (by omega))
    have B2 := ((B1.setCell (p := ⟨w.heap.size, 0, none⟩) (Nat.le_refl _) (.int .u64 (l1 : Int))).setCell (p := ⟨w.heap.size, 1, none⟩) (Nat.le_refl _) (.int .u64 (l2 : Int)))
    have K2 := ((K1.far (.int .u64 (l1 : Int)) (f := w.heap.size) (o := 0) (by omega)).far (.int .u64 (l2 : Int)) (f := w.heap.size) (o := 1) (by omega))
    obtain ⟨i0, i1, i2, i3, -⟩ := A2.four
    obtain ⟨k0, k1, -⟩ := K2.two
    obtain ⟨s0, s1, s2, s3, s4, s5, s6, s7⟩ := Z2.four
    clear A B Z K b1 B1 Z1 A1 K1
    have HA := hide_ A2
    have HZ := hide_ Z2
    have HB := hide_ B2
    have HK := hide_ K2
    clear A2 Z2 B2 K2
    go_wp2_with fail
    have A := HA.out
    have Z := HZ.out
    have B := HB.out
    have K := HK.out
    clear HA HZ HB HK o0 o1 o2 o3 o4 o5 o6 o7 i0 i1 i2 i3 s0 s1 s2 s3 s4 s5 s6 s7 k0 k1
    generalize ((w1.setCell ⟨w.heap.size, 0, none⟩ (.int .u64 (l1 : Int))).setCell ⟨w.heap.size, 1, none⟩ (.int .u64 (l2 : Int))) = W at *
    clear w1
    refine (q4.out _).mono ?_
    rintro e w1 ⟨rfl, b1⟩
    have A1 := A.later b1
    have Z1 := Z.later b1
    have B1 := B.trans (b1.mono B.size)
    have K1 := K.later b1
    obtain ⟨o0, o1, o2, o3, o4, o5, o6, o7⟩ := A1.four
    have A2 := ((A1.set (j := 0) (.int .u64 (r1 : Int))).set (j := 1) (.int .u64 (r2 : Int)))
    have Z2 := ((Z1.far (.int .u64 (r1 : Int)) (f := w.heap.size) (o := 0) (by omega)).far (.int .u64 (r2 : Int)) (f := w.heap.size) (o := 1) (by omega))
    have B2 := ((B1.setCell (p := ⟨w.heap.size, 0, none⟩) (Nat.le_refl _) (.int .u64 (r1 : Int))).setCell (p := ⟨w.heap.size, 1, none⟩) (Nat.le_refl _) (.int .u64 (r2 : Int)))
    have K2 := ((K1.far (.int .u64 (r1 : Int)) (f := w.heap.size) (o := 0) (by omega)).far (.int .u64 (r2 : Int)) (f := w.heap.size) (o := 1) (by omega))
    obtain ⟨i0, i1, i2, i3, -⟩ := A2.four
    obtain ⟨k0, k1, -⟩ := K2.two
    obtain ⟨s0, s1, s2, s3, s4, s5, s6, s7⟩ := Z2.four
    clear A B Z K b1 B1 Z1 A1 K1
    have HA := hide_ A2
    have HZ := hide_ Z2
    have HB := hide_ B2
    have HK := hide_ K2
    clear A2 Z2 B2 K2
    go_wp2_with fail
    have G := HZ.out.room.fill (.int .u64 (r1 : Int)) (.int .u64 (r2 : Int)) (.int .u64 (m1 : Int)) (.int .u64 (m2 : Int))
    have BB := below_fill HB.out (g := w.heap.size + 1) (Nat.le_succ _) (.int .u64 (r1 : Int)) (.int .u64 (r2 : Int)) (.int .u64 (m1 : Int)) (.int .u64 (m2 : Int))
    obtain ⟨g0, g1, g2, g3, -⟩ := G.four
    exact bodyPost_ret (v := .agg #[.int .u64 (r1 : Int), .int .u64 (r2 : Int), .int .u64 (m1 : Int), .int .u64 (m2 : Int)]) (by simp [results, Try.results73, go_sem, g0, g1, g2, g3]) rfl ⟨rfl, BB⟩

end Go.Proofs.Ytickphnfgaibiab
