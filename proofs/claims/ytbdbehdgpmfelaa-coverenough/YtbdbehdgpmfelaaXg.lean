import Derived.Test.YtbdbehdgpmfelaaProg
import Derived.Test.YtbdbehdgpmfelaaXa
import Derived.Test.YtbdbehdgpmfelaaXb
import Derived.Test.YtbdbehdgpmfelaaXd
import Derived.Test.YtbdbehdgpmfelaaXe
import Derived.Test.YtbdbehdgpmfelaaXf
import Derived.Below
import Derived.BigQuiet
import Derived.BigRegion
import Derived.ChangeAlike
import Derived.ChangeKeysEq
import Derived.ChangeSame
import Derived.DataElems
import Derived.Deep.MidRow
import Derived.Deep.QuietTactic
import Derived.Deep.RegionHeld
import Derived.Deep.RegionHeld3
import Derived.Deep.RegionLaw
import Derived.Deep.RegionLawGrows
import Derived.Deep.RegionWith
import Derived.Deep.WholeRow
import Derived.Great.BuildSlice
import Derived.Handy
import Derived.Laws.AppendOwn
import Derived.Laws.AppendOwnNone
import Derived.Laws.BitsAllLaws
import Derived.Laws.BitsLemmas
import Derived.Laws.CopyOwn
import Derived.Laws.OwnMore
import Derived.Laws.Rows
import Derived.Laws.StructEq
import Derived.Laws.Tables
import Derived.Lib.BitFns
import Derived.Lib.SmallJoins
import Derived.OpenShut
import Derived.ProofKit
import Derived.RegionTactic
import Derived.WalkKit
import Derived.WalkLawsBesides
import Derived.WalkSmall
import Derived.WalkSpells
import Derived.WideShapes
import Derived.Test.YtbdbehdgpmfelaaXc
import Derived.Test.YtbdbehdgpmfelaaTl
namespace Go.Proofs.Ytbdbehdgpmfelaa
section
open Go Go.RowKit
set_option linter.unusedVariables false
set_option linter.unusedSimpArgs false

def fixv (x h : Nat) (on : Bool) : Nat := match on with | true => x ||| h | false => andn x h

theorem tandn_lt (a c : Nat) (h : a < 18446744073709551616) : andn a c < 18446744073709551616 := Nat.lt_of_le_of_lt Nat.and_le_left h

theorem andn_or (x h : Nat) (hx : x < 18446744073709551616) (hh : h < 18446744073709551616) : andn x h ||| h = x ||| h := by
  apply Nat.eq_of_testBit_eq
  intro i
  rw [Nat.testBit_or, Nat.testBit_or, tb_andn x h hh]
  by_cases hi : i < 64
  · cases x.testBit i <;> cases h.testBit i <;> simp [hi]
  · rw [tb_high x i hx (by omega)]; simp

set_option maxRecDepth 100000 in
set_option maxHeartbeats 1000000 in
theorem twithin_any (a b c d a2 b2 c2 d2 : Nat) (w : World) (ha : a < 18446744073709551616) (hb : b < 18446744073709551616) (hc : c < 18446744073709551616) (hd : d < 18446744073709551616) (ha2 : a2 < 18446744073709551616) (hb2 : b2 < 18446744073709551616) (hc2 : c2 < 18446744073709551616) (hd2 : d2 < 18446744073709551616) :
    Calls Try.prog 67 #[td a b c d, td a2 b2 c2 d2] w fun e w' => e = .returned (.bool ((andn c2 c == 0 && andn d2 d == 0) && ((a ^^^ a2) &&& c2 == 0 && (b ^^^ b2) &&& d2 == 0))) ∧ Below w.heap.size w w' := by
  have q1 := hide_ (fun w => less_any c2 d2 c d w hc2 hd2 hc hd)
  have q2 := hide_ (fun w => zero_any (andn c2 c) (andn d2 d) w)
  have q3 := fun w => thas_any a2 b2 c2 d2 a b w ha2 hb2 hc2 hd2 ha hb
  rw [Nat.xor_comm a2 a, Nat.xor_comm b2 b] at q3
  have Q3 := hide_ q3
  clear q3
  generalize ((a ^^^ a2) &&& c2 == 0 && (b ^^^ b2) &&& d2 == 0) = y at *
  generalize hz : (andn c2 c == 0 && andn d2 d == 0) = z at *
  clear hz
  generalize andn c2 c = n1 at *
  generalize andn d2 d = n2 at *
  clear ha hb hc hd ha2 hb2 hc2 hd2
  unfold td at *
  unfold wd at *
  have HA := hide_ ((AB.at0 w 26 [.int .u64 (a : Int), .int .u64 (b : Int), .int .u64 (c : Int), .int .u64 (d : Int)]).alloc (.cells #[.int .u64 (a2 : Int), .int .u64 (b2 : Int), .int .u64 (c2 : Int), .int .u64 (d2 : Int)] 26))
  have HC := hide_ (AB.at1 w (.cells #[.int .u64 (a : Int), .int .u64 (b : Int), .int .u64 (c : Int), .int .u64 (d : Int)] 26) 26 [.int .u64 (a2 : Int), .int .u64 (b2 : Int), .int .u64 (c2 : Int), .int .u64 (d2 : Int)])
  have HB := hide_ (below2 w (.cells #[.int .u64 (a : Int), .int .u64 (b : Int), .int .u64 (c : Int), .int .u64 (d : Int)] 26) (.cells #[.int .u64 (a2 : Int), .int .u64 (b2 : Int), .int .u64 (c2 : Int), .int .u64 (d2 : Int)] 26))
  cases z
  · go_enter Try.func67, Try.ntmps67
    go_wp2_with (first | (go_at_call 69; refine (q1.out _).mono ?_; rintro e w1 ⟨rfl, b1⟩) | (go_at_call 44; refine (q2.out _).mono ?_; rintro e w2 ⟨rfl, b2⟩))
    go_ret
    exact ⟨rfl, HB.out.trans ((b1.trans (b2.mono b1.size)).mono HB.out.size)⟩
  · go_enter Try.func67, Try.ntmps67
    go_wp2_with (first | (go_at_call 69; refine (q1.out _).mono ?_; rintro e w1 ⟨rfl, b1⟩) | (go_at_call 44; refine (q2.out _).mono ?_; rintro e w2 ⟨rfl, b2⟩; have k2 := b1.trans (b2.mono b1.size); obtain ⟨o0, o1, o2, o3, -⟩ := (HA.out.later k2).four; obtain ⟨i0, i1, i2, i3, -⟩ := (HC.out.later k2).four) | (go_at_call 29; refine (Q3.out _).mono ?_; rintro e w3 ⟨rfl, b3⟩))
    go_ret
    exact ⟨by first | rfl | simp, HB.out.trans ((k2.trans (b3.mono k2.size)).mono HB.out.size)⟩

set_option maxRecDepth 100000 in
set_option maxHeartbeats 2000000 in
theorem rtwithin_any (a b c d a2 b2 c2 d2 : Nat) (w : World) (ha : a < 18446744073709551616) (hb : b < 18446744073709551616) (hc : c < 18446744073709551616) (hd : d < 18446744073709551616) (ha2 : a2 < 18446744073709551616) (hb2 : b2 < 18446744073709551616) (hc2 : c2 < 18446744073709551616) (hd2 : d2 < 18446744073709551616) :
    Calls Try.prog 54 #[td a b c d, td a2 b2 c2 d2] w fun e w' => e = .returned (.bool ((andn c2 c == 0 && andn d2 d == 0) && ((a ^^^ a2) &&& c2 == 0 && (b ^^^ b2) &&& d2 == 0))) ∧ Below w.heap.size w w' := by
  have q1 := hide_ (fun w => rless_any c2 d2 c d w hc2 hd2 hc hd)
  have q2 := hide_ (fun w => rzero_any (andn c2 c) (andn d2 d) w)
  have q3 := hide_ (fun w => rxor_any a b a2 b2 w ha hb ha2 hb2)
  have q4 := hide_ (fun w => rand_any (a ^^^ a2) (b ^^^ b2) c2 d2 w (xor_lt _ _ ha ha2) (xor_lt _ _ hb hb2) hc2 hd2)
  have q5 := hide_ (fun w => rzero_any ((a ^^^ a2) &&& c2) ((b ^^^ b2) &&& d2) w)
  generalize hy : ((a ^^^ a2) &&& c2 == 0 && (b ^^^ b2) &&& d2 == 0) = y at *
  generalize hz : (andn c2 c == 0 && andn d2 d == 0) = z at *
  clear hz hy
  generalize andn c2 c = n1 at *
  generalize andn d2 d = n2 at *
  generalize (a ^^^ a2) &&& c2 = m1 at *
  generalize (b ^^^ b2) &&& d2 = m2 at *
  generalize a ^^^ a2 = v1 at *
  generalize b ^^^ b2 = v2 at *
  clear ha hb hc hd ha2 hb2 hc2 hd2
  unfold td at *
  unfold wd at *
  have HB := hide_ (below2 w (.cells #[.int .u64 (a : Int), .int .u64 (b : Int), .int .u64 (c : Int), .int .u64 (d : Int)] 26) (.cells #[.int .u64 (a2 : Int), .int .u64 (b2 : Int), .int .u64 (c2 : Int), .int .u64 (d2 : Int)] 26))
  obtain ⟨o0, o1, o2, o3, -⟩ := ((AB.at0 w 26 [.int .u64 (a : Int), .int .u64 (b : Int), .int .u64 (c : Int), .int .u64 (d : Int)]).alloc (.cells #[.int .u64 (a2 : Int), .int .u64 (b2 : Int), .int .u64 (c2 : Int), .int .u64 (d2 : Int)] 26)).four
  obtain ⟨i0, i1, i2, i3, -⟩ := (AB.at1 w (.cells #[.int .u64 (a : Int), .int .u64 (b : Int), .int .u64 (c : Int), .int .u64 (d : Int)] 26) 26 [.int .u64 (a2 : Int), .int .u64 (b2 : Int), .int .u64 (c2 : Int), .int .u64 (d2 : Int)]).four
  cases z
  · go_enter Try.func54, Try.ntmps54
    go_wp2_with fail
    refine wp_region_held_drew (S := (fun w' => w'.cell? ⟨w.heap.size, 0, none⟩ = some (.int .u64 (a : Int)) ∧ w'.cell? ⟨w.heap.size, 1, none⟩ = some (.int .u64 (b : Int)) ∧ w'.cell? ⟨w.heap.size, 2, none⟩ = some (.int .u64 (c : Int)) ∧ w'.cell? ⟨w.heap.size, 3, none⟩ = some (.int .u64 (d : Int)) ∧ w'.cell? ⟨w.heap.size + 1, 0, none⟩ = some (.int .u64 (a2 : Int)) ∧ w'.cell? ⟨w.heap.size + 1, 1, none⟩ = some (.int .u64 (b2 : Int)) ∧ w'.cell? ⟨w.heap.size + 1, 2, none⟩ = some (.int .u64 (c2 : Int)) ∧ w'.cell? ⟨w.heap.size + 1, 3, none⟩ = some (.int .u64 (d2 : Int)) ∧ Below w.heap.size w w')) (by kernel_rfl) (⟨o0, o1, o2, o3, i0, i1, i2, i3, HB.out.drew⟩) (fun hHeld => ?_)
    refine takeR (i := 0) (v := ?_) rfl (by kernel_rfl) (by kernel_rfl) (by kernel_rfl) (some 5) rfl (Or.inl ⟨by rfl, ?_⟩) (fun _ _ _ h => h) (by assumption) ?_
    rotate_left
    · intro w hSw; (try dsimp only at hSw); go_simp; (try with_reducible rfl)
    simp only [Act.put, List.setIfInBounds_toArray, List.set_cons_zero, List.set_cons_succ]
    refine takeR (i := 1) (v := ?_) rfl (by kernel_rfl) (by kernel_rfl) (by kernel_rfl) (some 6) rfl (Or.inl ⟨by rfl, ?_⟩) (fun _ _ _ h => h) (by assumption) ?_
    rotate_left
    · intro w hSw; (try dsimp only at hSw); go_simp; (try with_reducible rfl)
    simp only [Act.put, List.setIfInBounds_toArray, List.set_cons_zero, List.set_cons_succ]
    refine takeR (i := 2) (v := ?_) rfl (by kernel_rfl) (by kernel_rfl) (by kernel_rfl) (some 7) rfl (Or.inl ⟨by rfl, ?_⟩) (fun _ _ _ h => h) (by assumption) ?_
    rotate_left
    · intro w hSw; (try dsimp only at hSw); go_simp; (try with_reducible rfl)
    simp only [Act.put, List.setIfInBounds_toArray, List.set_cons_zero, List.set_cons_succ]
    refine takeR (i := 3) (v := ?_) rfl (by kernel_rfl) (by kernel_rfl) (by kernel_rfl) (some 8) rfl (Or.inl ⟨by rfl, ?_⟩) (fun _ _ _ h => h) (by assumption) ?_
    rotate_left
    · intro w hSw; (try dsimp only at hSw); go_simp; (try with_reducible rfl)
    simp only [Act.put, List.setIfInBounds_toArray, List.set_cons_zero, List.set_cons_succ]
    refine wpAnyH_ready (rs := [4]) (by kernel_rfl) (by simp) (AllReadyH.cons rfl (fun K hK => ?_) AllReadyH.nil)
    go_simp
    refine (q1.out _).mono ?_
    rintro e w1 ⟨rfl, b1⟩
    refine hK.out _ _ (keepA8 b1 hHeld) (fun hHeld => ?_)
    clear hK K
    try simp only [Act.put, List.setIfInBounds_toArray, List.set_cons_zero, List.set_cons_succ]
    refine wpAnyH_ready (rs := [5]) (by kernel_rfl) (by simp) (AllReadyH.cons rfl (fun K hK => ?_) AllReadyH.nil)
    go_simp
    refine (q2.out _).mono ?_
    rintro e w2 ⟨rfl, b2⟩
    refine hK.out _ _ (keepA8 b2 hHeld) (fun hHeld => ?_)
    clear hK K
    try simp only [Act.put, List.setIfInBounds_toArray, List.set_cons_zero, List.set_cons_succ]
    refine takeR (i := 6) (v := ?_) rfl (by kernel_rfl) (by kernel_rfl) (by kernel_rfl) (some 11) rfl (Or.inl ⟨by rfl, ?_⟩) (fun _ _ _ h => h) (by assumption) ?_
    rotate_left
    · intro w hSw; (try dsimp only at hSw); go_simp; (try with_reducible rfl)
    simp only [Act.put, List.setIfInBounds_toArray, List.set_cons_zero, List.set_cons_succ]
    refine takeR (i := 7) (v := undef) rfl (by kernel_rfl) (by kernel_rfl) (by kernel_rfl) (some 12) rfl (Or.inr ⟨by rfl, rfl⟩) (fun _ _ _ h => h) (by assumption) ?_
    simp only [Act.put, List.setIfInBounds_toArray, List.set_cons_zero, List.set_cons_succ]
    refine takeR (i := 8) (v := undef) rfl (by kernel_rfl) (by kernel_rfl) (by kernel_rfl) (some 13) rfl (Or.inr ⟨by rfl, rfl⟩) (fun _ _ _ h => h) (by assumption) ?_
    simp only [Act.put, List.setIfInBounds_toArray, List.set_cons_zero, List.set_cons_succ]
    refine takeR (i := 9) (v := undef) rfl (by kernel_rfl) (by kernel_rfl) (by kernel_rfl) (some 14) rfl (Or.inr ⟨by rfl, rfl⟩) (fun _ _ _ h => h) (by assumption) ?_
    simp only [Act.put, List.setIfInBounds_toArray, List.set_cons_zero, List.set_cons_succ]
    refine takeR (i := 10) (v := undef) rfl (by kernel_rfl) (by kernel_rfl) (by kernel_rfl) (some 15) rfl (Or.inr ⟨by rfl, rfl⟩) (fun _ _ _ h => h) (by assumption) ?_
    simp only [Act.put, List.setIfInBounds_toArray, List.set_cons_zero, List.set_cons_succ]
    refine takeR (i := 11) (v := undef) rfl (by kernel_rfl) (by kernel_rfl) (by kernel_rfl) (some 16) rfl (Or.inr ⟨by rfl, rfl⟩) (fun _ _ _ h => h) (by assumption) ?_
    simp only [Act.put, List.setIfInBounds_toArray, List.set_cons_zero, List.set_cons_succ]
    refine takeR (i := 12) (v := undef) rfl (by kernel_rfl) (by kernel_rfl) (by kernel_rfl) (some 17) rfl (Or.inr ⟨by rfl, rfl⟩) (fun _ _ _ h => h) (by assumption) ?_
    simp only [Act.put, List.setIfInBounds_toArray, List.set_cons_zero, List.set_cons_succ]
    refine takeR (i := 13) (v := undef) rfl (by kernel_rfl) (by kernel_rfl) (by kernel_rfl) (some 18) rfl (Or.inr ⟨by rfl, rfl⟩) (fun _ _ _ h => h) (by assumption) ?_
    simp only [Act.put, List.setIfInBounds_toArray, List.set_cons_zero, List.set_cons_succ]
    refine takeR (i := 14) (v := undef) rfl (by kernel_rfl) (by kernel_rfl) (by kernel_rfl) (some 19) rfl (Or.inr ⟨by rfl, rfl⟩) (fun _ _ _ h => h) (by assumption) ?_
    simp only [Act.put, List.setIfInBounds_toArray, List.set_cons_zero, List.set_cons_succ]
    refine takeR (i := 15) (v := undef) rfl (by kernel_rfl) (by kernel_rfl) (by kernel_rfl) (some 20) rfl (Or.inr ⟨by rfl, rfl⟩) (fun _ _ _ h => h) (by assumption) ?_
    simp only [Act.put, List.setIfInBounds_toArray, List.set_cons_zero, List.set_cons_succ]
    refine takeR (i := 16) (v := ?_) rfl (by kernel_rfl) (by kernel_rfl) (by kernel_rfl) (some 21) rfl (Or.inl ⟨by rfl, ?_⟩) (fun _ _ _ h => h) (by assumption) ?_
    rotate_left
    · intro w hSw; (try dsimp only at hSw); go_simp; (try with_reducible rfl)
    simp only [Act.put, List.setIfInBounds_toArray, List.set_cons_zero, List.set_cons_succ]
    refine takeR (i := 17) (v := ?_) rfl (by kernel_rfl) (by kernel_rfl) (by kernel_rfl) (some 4) rfl (Or.inl ⟨by rfl, ?_⟩) (fun _ _ _ h => h) (by assumption) ?_
    rotate_left
    · intro w hSw; (try dsimp only at hSw); go_simp; (try with_reducible rfl)
    simp only [Act.put, List.setIfInBounds_toArray, List.set_cons_zero, List.set_cons_succ]
    refine wpAnyH_done (by kernel_rfl) ?_ _
    have bel := hHeld.2.2.2.2.2.2.2.2
    clear hHeld
    go_wp2_with fail
    go_ret
    exact ⟨by first | rfl | simp, bel⟩
  · go_enter Try.func54, Try.ntmps54
    go_wp2_with fail
    go_region_held3 (fun w' => w'.cell? ⟨w.heap.size, 0, none⟩ = some (.int .u64 (a : Int)) ∧ w'.cell? ⟨w.heap.size, 1, none⟩ = some (.int .u64 (b : Int)) ∧ w'.cell? ⟨w.heap.size, 2, none⟩ = some (.int .u64 (c : Int)) ∧ w'.cell? ⟨w.heap.size, 3, none⟩ = some (.int .u64 (d : Int)) ∧ w'.cell? ⟨w.heap.size + 1, 0, none⟩ = some (.int .u64 (a2 : Int)) ∧ w'.cell? ⟨w.heap.size + 1, 1, none⟩ = some (.int .u64 (b2 : Int)) ∧ w'.cell? ⟨w.heap.size + 1, 2, none⟩ = some (.int .u64 (c2 : Int)) ∧ w'.cell? ⟨w.heap.size + 1, 3, none⟩ = some (.int .u64 (d2 : Int)) ∧ Below w.heap.size w w')
      (first | (with_reducible exact keepA8 (by assumption) (by assumption)) | (exact ⟨o0, o1, o2, o3, i0, i1, i2, i3, HB.out.drew⟩) | (exact ⟨o0, o1, o2, o3, i0, i1, i2, i3, HB.out⟩))
      (first | (go_at_call 72; refine (q1.out _).mono ?_; rintro e w' ⟨rfl, hb⟩) | (go_at_call_of 63 (Value.int IntKind.u64 (n1 : Int)); refine (q2.out _).mono ?_; rintro e w' ⟨rfl, hb⟩) | (go_at_call 64; refine (q3.out _).mono ?_; rintro e w' ⟨rfl, hb⟩) | (go_at_call 62; refine (q4.out _).mono ?_; rintro e w' ⟨rfl, hb⟩) | (go_at_call_of 63 (Value.int IntKind.u64 (m1 : Int)); refine (q5.out _).mono ?_; rintro e w' ⟨rfl, hb⟩))
    rename_i hH
    have bel := hH.2.2.2.2.2.2.2.2
    clear hH
    go_wp2_with fail
    go_ret
    exact ⟨by first | rfl | simp, bel⟩

set_option maxRecDepth 100000 in
set_option maxHeartbeats 2000000 in
theorem tfix_any (a b c d : Nat) (i : Int) (on : Bool) (w : World) (ha : a < 18446744073709551616) (hb : b < 18446744073709551616) (hc : c < 18446744073709551616) (hd : d < 18446744073709551616) :
    Calls Try.prog 53 #[td a b c d, .int .i64 i, .bool on] w fun e w' => e = .returned (td (fixv (a &&& c) (bhz i) on) (fixv (b &&& d) (blz i) on) (c ||| bhz i) (d ||| blz i)) ∧ Below w.heap.size w w' := by
  have q1 := hide_ (fun w => tclean_any a b c d w ha hb hc hd)
  have q2 := hide_ (fun w => bit_any i w)
  have q3 := hide_ (fun w => or_any c d (bhz i) (blz i) w hc hd (bhz_lt i) (blz_lt i))
  have q4 := (fun w => or_any (a &&& c) (b &&& d) (bhz i) (blz i) w (and_lt _ _ ha) (and_lt _ _ hb) (bhz_lt i) (blz_lt i))
  have q5 := hide_ (fun w => less_any (a &&& c) (b &&& d) (bhz i) (blz i) w (and_lt _ _ ha) (and_lt _ _ hb) (bhz_lt i) (blz_lt i))
  have q4 := hide_ q4
  have e1 : fixv (a &&& c) (bhz i) true = (a &&& c) ||| bhz i := rfl
  have e2 : fixv (b &&& d) (blz i) true = (b &&& d) ||| blz i := rfl
  have e3 : fixv (a &&& c) (bhz i) false = andn (a &&& c) (bhz i) := rfl
  have e4 : fixv (b &&& d) (blz i) false = andn (b &&& d) (blz i) := rfl
  cases on
  all_goals first | rw [e3, e4] | rw [e1, e2]
  all_goals
    clear e1 e2 e3 e4
    generalize bhz i = h1 at *
    generalize blz i = h2 at *
    generalize (a &&& c) ||| h1 = r1 at *
    generalize (b &&& d) ||| h2 = r2 at *
    generalize andn (a &&& c) h1 = l1 at *
    generalize andn (b &&& d) h2 = l2 at *
    generalize c ||| h1 = m1 at *
    generalize d ||| h2 = m2 at *
    generalize a &&& c = x1 at *
    generalize b &&& d = x2 at *
    clear ha hb hc hd
    unfold td at *
    unfold wd at *
  · have A := (AB.at0 w 26 [.int .u64 (a : Int), .int .u64 (b : Int), .int .u64 (c : Int), .int .u64 (d : Int)]).alloc (.cells #[.int .u64 (0 : Int), .int .u64 (0 : Int), .int .u64 (0 : Int), .int .u64 (0 : Int)] 26)
    have Z := AB.at1 w (.cells #[.int .u64 (a : Int), .int .u64 (b : Int), .int .u64 (c : Int), .int .u64 (d : Int)] 26) 26 [.int .u64 (0 : Int), .int .u64 (0 : Int), .int .u64 (0 : Int), .int .u64 (0 : Int)]
    have B := below2 w (.cells #[.int .u64 (a : Int), .int .u64 (b : Int), .int .u64 (c : Int), .int .u64 (d : Int)] 26) (.cells #[.int .u64 (0 : Int), .int .u64 (0 : Int), .int .u64 (0 : Int), .int .u64 (0 : Int)] 26)
    have HA := hide_ A
    have HZ := hide_ Z
    have HB := hide_ B
    clear A Z B
    go_enter Try.func53, Try.ntmps53
    go_wp2_with fail
    have A := HA.out
    have Z := HZ.out
    have B := HB.out
    clear HA HZ HB
    generalize ((w.alloc (.cells #[.int .u64 (a : Int), .int .u64 (b : Int), .int .u64 (c : Int), .int .u64 (d : Int)] 26)).alloc (.cells #[.int .u64 (0 : Int), .int .u64 (0 : Int), .int .u64 (0 : Int), .int .u64 (0 : Int)] 26)) = W at *
    refine (q1.out _).mono ?_
    rintro e w1 ⟨rfl, b1⟩
    have A1 := A.later b1
    have Z1 := Z.later b1
    have B1 := B.trans (b1.mono B.size)
    obtain ⟨o0, o1, o2, o3, o4, o5, o6, o7⟩ := A1.four
    have A2 := ((((A1.set (j := 0) (.int .u64 (x1 : Int))).set (j := 1) (.int .u64 (x2 : Int))).set (j := 2) (.int .u64 (c : Int))).set (j := 3) (.int .u64 (d : Int)))
    have Z2 := ((((Z1.far (.int .u64 (x1 : Int)) (f := w.heap.size) (o := 0) (by omega)).far (.int .u64 (x2 : Int)) (f := w.heap.size) (o := 1) (by omega)).far (.int .u64 (c : Int)) (f := w.heap.size) (o := 2) (by omega)).far (.int .u64 (d : Int)) (f := w.heap.size) (o := 3) (by omega))
    have B2 := ((((B1.setCell (p := ⟨w.heap.size, 0, none⟩) (Nat.le_refl _) (.int .u64 (x1 : Int))).setCell (p := ⟨w.heap.size, 1, none⟩) (Nat.le_refl _) (.int .u64 (x2 : Int))).setCell (p := ⟨w.heap.size, 2, none⟩) (Nat.le_refl _) (.int .u64 (c : Int))).setCell (p := ⟨w.heap.size, 3, none⟩) (Nat.le_refl _) (.int .u64 (d : Int)))
    obtain ⟨i0, i1, i2, i3, -⟩ := A2.four
    obtain ⟨s0, s1, s2, s3, s4, s5, s6, s7⟩ := Z2.four
    clear A B Z b1 B1 Z1 A1
    have HA := hide_ A2
    have HZ := hide_ Z2
    have HB := hide_ B2
    clear A2 Z2 B2
    go_wp2_with fail
    have A := HA.out
    have Z := HZ.out
    have B := HB.out
    clear HA HZ HB o0 o1 o2 o3 o4 o5 o6 o7 i0 i1 i2 i3 s0 s1 s2 s3 s4 s5 s6 s7
    generalize ((((w1.setCell ⟨w.heap.size, 0, none⟩ (.int .u64 (x1 : Int))).setCell ⟨w.heap.size, 1, none⟩ (.int .u64 (x2 : Int))).setCell ⟨w.heap.size, 2, none⟩ (.int .u64 (c : Int))).setCell ⟨w.heap.size, 3, none⟩ (.int .u64 (d : Int))) = W at *
    clear w1
    refine (q2.out _).mono ?_
    rintro e w1 ⟨rfl, b1⟩
    have A2 := (A.later b1).alloc (.cells #[.int .u64 (h1 : Int), .int .u64 (h2 : Int)] 24)
    have Z2 := (Z.later b1).alloc (.cells #[.int .u64 (h1 : Int), .int .u64 (h2 : Int)] 24)
    have B1 := B.trans (b1.mono B.size)
    have B2 := B1.alloc B1.size (.cells #[.int .u64 (h1 : Int), .int .u64 (h2 : Int)] 24)
    have K2 := AB.at0 w1 24 [.int .u64 (h1 : Int), .int .u64 (h2 : Int)]
    obtain ⟨i0, i1, i2, i3, -⟩ := A2.four
    obtain ⟨k0, k1, -⟩ := K2.two
    have hn : w.heap.size + 1 < w1.heap.size := Nat.lt_of_lt_of_le Z.lt b1.size
    clear A B Z b1 B1
    have HA := hide_ A2
    have HZ := hide_ Z2
    have HB := hide_ B2
    have HK := hide_ K2
    clear A2 Z2 B2 K2
    go_wp2_with fail
    have A := HA.out
    have Z := HZ.out
    have B := HB.out
    have K := HK.out
    clear HA HZ HB HK i0 i1 i2 i3 k0 k1
    generalize w1.alloc (.cells #[.int .u64 (h1 : Int), .int .u64 (h2 : Int)] 24) = W at *
    generalize w1.heap.size = n at *
    clear w1
    refine (q3.out _).mono ?_
    rintro e w1 ⟨rfl, b1⟩
    have A1 := A.later b1
    have Z1 := Z.later b1
    have B1 := B.trans (b1.mono B.size)
    have K1 := K.later b1
    obtain ⟨o0, o1, o2, o3, o4, o5, o6, o7⟩ := A1.four
    have A2 := ((A1.set (j := 2) (.int .u64 (m1 : Int))).set (j := 3) (.int .u64 (m2 : Int)))
    have Z2 := ((Z1.far (.int .u64 (m1 : Int)) (f := w.heap.size) (o := 2) (by omega)).far (.int .u64 (m2 : Int)) (f := w.heap.size) (o := 3) (by omega))
    have B2 := ((B1.setCell (p := ⟨w.heap.size, 2, none⟩) (Nat.le_refl _) (.int .u64 (m1 : Int))).setCell (p := ⟨w.heap.size, 3, none⟩) (Nat.le_refl _) (.int .u64 (m2 : Int)))
    have K2 := ((K1.far (.int .u64 (m1 : Int)) (f := w.heap.size) (o := 2) (by omega)).far (.int .u64 (m2 : Int)) (f := w.heap.size) (o := 3) (by omega))
    obtain ⟨i0, i1, i2, i3, -⟩ := A2.four
    obtain ⟨k0, k1, -⟩ := K2.two
    obtain ⟨s0, s1, s2, s3, s4, s5, s6, s7⟩ := Z2.four
    clear A B Z K b1 B1 Z1 A1 K1
    have HA := hide_ A2
    have HZ := hide_ Z2
    have HB := hide_ B2
    have HK := hide_ K2
    clear A2 Z2 B2 K2
    go_wp2_with fail
    have A := HA.out
    have Z := HZ.out
    have B := HB.out
    have K := HK.out
    clear HA HZ HB HK o0 o1 o2 o3 o4 o5 o6 o7 i0 i1 i2 i3 s0 s1 s2 s3 s4 s5 s6 s7 k0 k1
    generalize ((w1.setCell ⟨w.heap.size, 2, none⟩ (.int .u64 (m1 : Int))).setCell ⟨w.heap.size, 3, none⟩ (.int .u64 (m2 : Int))) = W at *
    clear w1
    refine (q5.out _).mono ?_
    rintro e w1 ⟨rfl, b1⟩
    have A1 := A.later b1
    have Z1 := Z.later b1
    have B1 := B.trans (b1.mono B.size)
    have K1 := K.later b1
    obtain ⟨o0, o1, o2, o3, o4, o5, o6, o7⟩ := A1.four
    have A2 := ((A1.set (j := 0) (.int .u64 (l1 : Int))).set (j := 1) (.int .u64 (l2 : Int)))
    have Z2 := ((Z1.far (.int .u64 (l1 : Int)) (f := w.heap.size) (o := 0) (by omega)).far (.int .u64 (l2 : Int)) (f := w.heap.size) (o := 1) (by omega))
    have B2 := ((B1.setCell (p := ⟨w.heap.size, 0, none⟩) (Nat.le_refl _) (.int .u64 (l1 : Int))).setCell (p := ⟨w.heap.size, 1, none⟩) (Nat.le_refl _) (.int .u64 (l2 : Int)))
    have K2 := ((K1.far (.int .u64 (l1 : Int)) (f := w.heap.size) (o := 0) (by omega)).far (.int .u64 (l2 : Int)) (f := w.heap.size) (o := 1) (by omega))
    obtain ⟨i0, i1, i2, i3, -⟩ := A2.four
    obtain ⟨k0, k1, -⟩ := K2.two
    obtain ⟨s0, s1, s2, s3, s4, s5, s6, s7⟩ := Z2.four
    clear A B Z K b1 B1 Z1 A1 K1
    have HA := hide_ A2
    have HZ := hide_ Z2
    have HB := hide_ B2
    have HK := hide_ K2
    clear A2 Z2 B2 K2
    go_wp2_with fail
    have G := HZ.out.room.fill (.int .u64 (l1 : Int)) (.int .u64 (l2 : Int)) (.int .u64 (m1 : Int)) (.int .u64 (m2 : Int))
    have BB := below_fill HB.out (g := w.heap.size + 1) (Nat.le_succ _) (.int .u64 (l1 : Int)) (.int .u64 (l2 : Int)) (.int .u64 (m1 : Int)) (.int .u64 (m2 : Int))
    obtain ⟨g0, g1, g2, g3, -⟩ := G.four
    exact bodyPost_ret (v := .agg #[.int .u64 (l1 : Int), .int .u64 (l2 : Int), .int .u64 (m1 : Int), .int .u64 (m2 : Int)]) (by simp [results, Try.results53, go_sem, g0, g1, g2, g3]) rfl ⟨rfl, BB⟩
  · have A := (AB.at0 w 26 [.int .u64 (a : Int), .int .u64 (b : Int), .int .u64 (c : Int), .int .u64 (d : Int)]).alloc (.cells #[.int .u64 (0 : Int), .int .u64 (0 : Int), .int .u64 (0 : Int), .int .u64 (0 : Int)] 26)
    have Z := AB.at1 w (.cells #[.int .u64 (a : Int), .int .u64 (b : Int), .int .u64 (c : Int), .int .u64 (d : Int)] 26) 26 [.int .u64 (0 : Int), .int .u64 (0 : Int), .int .u64 (0 : Int), .int .u64 (0 : Int)]
    have B := below2 w (.cells #[.int .u64 (a : Int), .int .u64 (b : Int), .int .u64 (c : Int), .int .u64 (d : Int)] 26) (.cells #[.int .u64 (0 : Int), .int .u64 (0 : Int), .int .u64 (0 : Int), .int .u64 (0 : Int)] 26)
    have HA := hide_ A
    have HZ := hide_ Z
    have HB := hide_ B
    clear A Z B
    go_enter Try.func53, Try.ntmps53
    go_wp2_with fail
    have A := HA.out
    have Z := HZ.out
    have B := HB.out
    clear HA HZ HB
    generalize ((w.alloc (.cells #[.int .u64 (a : Int), .int .u64 (b : Int), .int .u64 (c : Int), .int .u64 (d : Int)] 26)).alloc (.cells #[.int .u64 (0 : Int), .int .u64 (0 : Int), .int .u64 (0 : Int), .int .u64 (0 : Int)] 26)) = W at *
    refine (q1.out _).mono ?_
    rintro e w1 ⟨rfl, b1⟩
    have A1 := A.later b1
    have Z1 := Z.later b1
    have B1 := B.trans (b1.mono B.size)
    obtain ⟨o0, o1, o2, o3, o4, o5, o6, o7⟩ := A1.four
    have A2 := ((((A1.set (j := 0) (.int .u64 (x1 : Int))).set (j := 1) (.int .u64 (x2 : Int))).set (j := 2) (.int .u64 (c : Int))).set (j := 3) (.int .u64 (d : Int)))
    have Z2 := ((((Z1.far (.int .u64 (x1 : Int)) (f := w.heap.size) (o := 0) (by omega)).far (.int .u64 (x2 : Int)) (f := w.heap.size) (o := 1) (by omega)).far (.int .u64 (c : Int)) (f := w.heap.size) (o := 2) (by omega)).far (.int .u64 (d : Int)) (f := w.heap.size) (o := 3) (by omega))
    have B2 := ((((B1.setCell (p := ⟨w.heap.size, 0, none⟩) (Nat.le_refl _) (.int .u64 (x1 : Int))).setCell (p := ⟨w.heap.size, 1, none⟩) (Nat.le_refl _) (.int .u64 (x2 : Int))).setCell (p := ⟨w.heap.size, 2, none⟩) (Nat.le_refl _) (.int .u64 (c : Int))).setCell (p := ⟨w.heap.size, 3, none⟩) (Nat.le_refl _) (.int .u64 (d : Int)))
    obtain ⟨i0, i1, i2, i3, -⟩ := A2.four
    obtain ⟨s0, s1, s2, s3, s4, s5, s6, s7⟩ := Z2.four
    clear A B Z b1 B1 Z1 A1
    have HA := hide_ A2
    have HZ := hide_ Z2
    have HB := hide_ B2
    clear A2 Z2 B2
    go_wp2_with fail
    have A := HA.out
    have Z := HZ.out
    have B := HB.out
    clear HA HZ HB o0 o1 o2 o3 o4 o5 o6 o7 i0 i1 i2 i3 s0 s1 s2 s3 s4 s5 s6 s7
    generalize ((((w1.setCell ⟨w.heap.size, 0, none⟩ (.int .u64 (x1 : Int))).setCell ⟨w.heap.size, 1, none⟩ (.int .u64 (x2 : Int))).setCell ⟨w.heap.size, 2, none⟩ (.int .u64 (c : Int))).setCell ⟨w.heap.size, 3, none⟩ (.int .u64 (d : Int))) = W at *
    clear w1
    refine (q2.out _).mono ?_
    rintro e w1 ⟨rfl, b1⟩
    have A2 := (A.later b1).alloc (.cells #[.int .u64 (h1 : Int), .int .u64 (h2 : Int)] 24)
    have Z2 := (Z.later b1).alloc (.cells #[.int .u64 (h1 : Int), .int .u64 (h2 : Int)] 24)
    have B1 := B.trans (b1.mono B.size)
    have B2 := B1.alloc B1.size (.cells #[.int .u64 (h1 : Int), .int .u64 (h2 : Int)] 24)
    have K2 := AB.at0 w1 24 [.int .u64 (h1 : Int), .int .u64 (h2 : Int)]
    obtain ⟨i0, i1, i2, i3, -⟩ := A2.four
    obtain ⟨k0, k1, -⟩ := K2.two
    have hn : w.heap.size + 1 < w1.heap.size := Nat.lt_of_lt_of_le Z.lt b1.size
    clear A B Z b1 B1
    have HA := hide_ A2
    have HZ := hide_ Z2
    have HB := hide_ B2
    have HK := hide_ K2
    clear A2 Z2 B2 K2
    go_wp2_with fail
    have A := HA.out
    have Z := HZ.out
    have B := HB.out
    have K := HK.out
    clear HA HZ HB HK i0 i1 i2 i3 k0 k1
    generalize w1.alloc (.cells #[.int .u64 (h1 : Int), .int .u64 (h2 : Int)] 24) = W at *
    generalize w1.heap.size = n at *
    clear w1
    refine (q3.out _).mono ?_
    rintro e w1 ⟨rfl, b1⟩
    have A1 := A.later b1
    have Z1 := Z.later b1
    have B1 := B.trans (b1.mono B.size)
    have K1 := K.later b1
    obtain ⟨o0, o1, o2, o3, o4, o5, o6, o7⟩ := A1.four
    have A2 := ((A1.set (j := 2) (.int .u64 (m1 : Int))).set (j := 3) (.int .u64 (m2 : Int)))
    have Z2 := ((Z1.far (.int .u64 (m1 : Int)) (f := w.heap.size) (o := 2) (by omega)).far (.int .u64 (m2 : Int)) (f := w.heap.size) (o := 3) (by omega))
    have B2 := ((B1.setCell (p := ⟨w.heap.size, 2, none⟩) (Nat.le_refl _) (.int .u64 (m1 : Int))).setCell (p := ⟨w.heap.size, 3, none⟩) (Nat.le_refl _) (.int .u64 (m2 : Int)))
    have K2 := ((K1.far (.int .u64 (m1 : Int)) (f := w.heap.size) (o := 2) (by omega)).far (.int .u64 (m2 : Int)) (f := w.heap.size) (o := 3) (by omega))
    obtain ⟨i0, i1, i2, i3, -⟩ := A2.four
    obtain ⟨k0, k1, -⟩ := K2.two
    obtain ⟨s0, s1, s2, s3, s4, s5, s6, s7⟩ := Z2.four
    clear A B Z K b1 B1 Z1 A1 K1
    have HA := hide_ A2
    have HZ := hide_ Z2
    have HB := hide_ B2
    have HK := hide_ K2
    clear A2 Z2 B2 K2
    go_wp2_with fail
    have A := HA.out
    have Z := HZ.out
    have B := HB.out
    have K := HK.out
    clear HA HZ HB HK o0 o1 o2 o3 o4 o5 o6 o7 i0 i1 i2 i3 s0 s1 s2 s3 s4 s5 s6 s7 k0 k1
    generalize ((w1.setCell ⟨w.heap.size, 2, none⟩ (.int .u64 (m1 : Int))).setCell ⟨w.heap.size, 3, none⟩ (.int .u64 (m2 : Int))) = W at *
    clear w1
    refine (q4.out _).mono ?_
    rintro e w1 ⟨rfl, b1⟩
    have A1 := A.later b1
    have Z1 := Z.later b1
    have B1 := B.trans (b1.mono B.size)
    have K1 := K.later b1
    obtain ⟨o0, o1, o2, o3, o4, o5, o6, o7⟩ := A1.four
    have A2 := ((A1.set (j := 0) (.int .u64 (r1 : Int))).set (j := 1) (.int .u64 (r2 : Int)))
    have Z2 := ((Z1.far (.int .u64 (r1 : Int)) (f := w.heap.size) (o := 0) (by omega)).far (.int .u64 (r2 : Int)) (f := w.heap.size) (o := 1) (by omega))
    have B2 := ((B1.setCell (p := ⟨w.heap.size, 0, none⟩) (Nat.le_refl _) (.int .u64 (r1 : Int))).setCell (p := ⟨w.heap.size, 1, none⟩) (Nat.le_refl _) (.int .u64 (r2 : Int)))
    have K2 := ((K1.far (.int .u64 (r1 : Int)) (f := w.heap.size) (o := 0) (by omega)).far (.int .u64 (r2 : Int)) (f := w.heap.size) (o := 1) (by omega))
    obtain ⟨i0, i1, i2, i3, -⟩ := A2.four
    obtain ⟨k0, k1, -⟩ := K2.two
    obtain ⟨s0, s1, s2, s3, s4, s5, s6, s7⟩ := Z2.four
    clear A B Z K b1 B1 Z1 A1 K1
    have HA := hide_ A2
    have HZ := hide_ Z2
    have HB := hide_ B2
    have HK := hide_ K2
    clear A2 Z2 B2 K2
    go_wp2_with fail
    have G := HZ.out.room.fill (.int .u64 (r1 : Int)) (.int .u64 (r2 : Int)) (.int .u64 (m1 : Int)) (.int .u64 (m2 : Int))
    have BB := below_fill HB.out (g := w.heap.size + 1) (Nat.le_succ _) (.int .u64 (r1 : Int)) (.int .u64 (r2 : Int)) (.int .u64 (m1 : Int)) (.int .u64 (m2 : Int))
    obtain ⟨g0, g1, g2, g3, -⟩ := G.four
    exact bodyPost_ret (v := .agg #[.int .u64 (r1 : Int), .int .u64 (r2 : Int), .int .u64 (m1 : Int), .int .u64 (m2 : Int)]) (by simp [results, Try.results53, go_sem, g0, g1, g2, g3]) rfl ⟨rfl, BB⟩

set_option maxRecDepth 100000 in
set_option maxHeartbeats 2000000 in
theorem rtfix_any (a b c d : Nat) (i : Int) (on : Bool) (w : World) (ha : a < 18446744073709551616) (hb : b < 18446744073709551616) (hc : c < 18446744073709551616) (hd : d < 18446744073709551616) :
    Calls Try.prog 59 #[td a b c d, .int .i64 i, .bool on] w fun e w' => e = .returned (td (fixv (a &&& c) (bhz i) on) (fixv (b &&& d) (blz i) on) (c ||| bhz i) (d ||| blz i)) ∧ Below w.heap.size w w' := by
  have q1 := hide_ (fun w => rtclean_any a b c d w ha hb hc hd)
  have q2 := hide_ (fun w => rbit_any i w)
  have q3 := hide_ (fun w => ror_any c d (bhz i) (blz i) w hc hd (bhz_lt i) (blz_lt i))
  have q4 := (fun w => ror_any (andn (a &&& c) (bhz i)) (andn (b &&& d) (blz i)) (bhz i) (blz i) w (tandn_lt _ _ (and_lt _ _ ha)) (tandn_lt _ _ (and_lt _ _ hb)) (bhz_lt i) (blz_lt i))
  rw [andn_or _ _ (and_lt _ _ ha) (bhz_lt i), andn_or _ _ (and_lt _ _ hb) (blz_lt i)] at q4
  have q5 := hide_ (fun w => rless_any (a &&& c) (b &&& d) (bhz i) (blz i) w (and_lt _ _ ha) (and_lt _ _ hb) (bhz_lt i) (blz_lt i))
  have q4 := hide_ q4
  have e1 : fixv (a &&& c) (bhz i) true = (a &&& c) ||| bhz i := rfl
  have e2 : fixv (b &&& d) (blz i) true = (b &&& d) ||| blz i := rfl
  have e3 : fixv (a &&& c) (bhz i) false = andn (a &&& c) (bhz i) := rfl
  have e4 : fixv (b &&& d) (blz i) false = andn (b &&& d) (blz i) := rfl
  cases on
  all_goals first | rw [e3, e4] | rw [e1, e2]
  all_goals
    clear e1 e2 e3 e4
    generalize bhz i = h1 at *
    generalize blz i = h2 at *
    generalize (a &&& c) ||| h1 = r1 at *
    generalize (b &&& d) ||| h2 = r2 at *
    generalize andn (a &&& c) h1 = l1 at *
    generalize andn (b &&& d) h2 = l2 at *
    generalize c ||| h1 = m1 at *
    generalize d ||| h2 = m2 at *
    generalize a &&& c = x1 at *
    generalize b &&& d = x2 at *
    clear ha hb hc hd
    unfold td at *
    unfold wd at *
  · have A := (AB.at0 w 26 [.int .u64 (a : Int), .int .u64 (b : Int), .int .u64 (c : Int), .int .u64 (d : Int)]).alloc (.cells #[.int .u64 (0 : Int), .int .u64 (0 : Int), .int .u64 (0 : Int), .int .u64 (0 : Int)] 26)
    have Z := AB.at1 w (.cells #[.int .u64 (a : Int), .int .u64 (b : Int), .int .u64 (c : Int), .int .u64 (d : Int)] 26) 26 [.int .u64 (0 : Int), .int .u64 (0 : Int), .int .u64 (0 : Int), .int .u64 (0 : Int)]
    have B := below2 w (.cells #[.int .u64 (a : Int), .int .u64 (b : Int), .int .u64 (c : Int), .int .u64 (d : Int)] 26) (.cells #[.int .u64 (0 : Int), .int .u64 (0 : Int), .int .u64 (0 : Int), .int .u64 (0 : Int)] 26)
    have HA := hide_ A
    have HZ := hide_ Z
    have HB := hide_ B
    clear A Z B
    go_enter Try.func59, Try.ntmps59
    go_wp2_with fail
    have A := HA.out
    have Z := HZ.out
    have B := HB.out
    clear HA HZ HB
    generalize ((w.alloc (.cells #[.int .u64 (a : Int), .int .u64 (b : Int), .int .u64 (c : Int), .int .u64 (d : Int)] 26)).alloc (.cells #[.int .u64 (0 : Int), .int .u64 (0 : Int), .int .u64 (0 : Int), .int .u64 (0 : Int)] 26)) = W at *
    refine (q1.out _).mono ?_
    rintro e w1 ⟨rfl, b1⟩
    have A1 := A.later b1
    have Z1 := Z.later b1
    have B1 := B.trans (b1.mono B.size)
    obtain ⟨o0, o1, o2, o3, o4, o5, o6, o7⟩ := A1.four
    have A2 := ((((A1.set (j := 0) (.int .u64 (x1 : Int))).set (j := 1) (.int .u64 (x2 : Int))).set (j := 2) (.int .u64 (c : Int))).set (j := 3) (.int .u64 (d : Int)))
    have Z2 := ((((Z1.far (.int .u64 (x1 : Int)) (f := w.heap.size) (o := 0) (by omega)).far (.int .u64 (x2 : Int)) (f := w.heap.size) (o := 1) (by omega)).far (.int .u64 (c : Int)) (f := w.heap.size) (o := 2) (by omega)).far (.int .u64 (d : Int)) (f := w.heap.size) (o := 3) (by omega))
    have B2 := ((((B1.setCell (p := ⟨w.heap.size, 0, none⟩) (Nat.le_refl _) (.int .u64 (x1 : Int))).setCell (p := ⟨w.heap.size, 1, none⟩) (Nat.le_refl _) (.int .u64 (x2 : Int))).setCell (p := ⟨w.heap.size, 2, none⟩) (Nat.le_refl _) (.int .u64 (c : Int))).setCell (p := ⟨w.heap.size, 3, none⟩) (Nat.le_refl _) (.int .u64 (d : Int)))
    obtain ⟨i0, i1, i2, i3, -⟩ := A2.four
    obtain ⟨s0, s1, s2, s3, s4, s5, s6, s7⟩ := Z2.four
    clear A B Z b1 B1 Z1 A1
    have HA := hide_ A2
    have HZ := hide_ Z2
    have HB := hide_ B2
    clear A2 Z2 B2
    go_wp2_with fail
    have A := HA.out
    have Z := HZ.out
    have B := HB.out
    clear HA HZ HB o0 o1 o2 o3 o4 o5 o6 o7 i0 i1 i2 i3 s0 s1 s2 s3 s4 s5 s6 s7
    generalize ((((w1.setCell ⟨w.heap.size, 0, none⟩ (.int .u64 (x1 : Int))).setCell ⟨w.heap.size, 1, none⟩ (.int .u64 (x2 : Int))).setCell ⟨w.heap.size, 2, none⟩ (.int .u64 (c : Int))).setCell ⟨w.heap.size, 3, none⟩ (.int .u64 (d : Int))) = W at *
    clear w1
    refine (q2.out _).mono ?_
    rintro e w1 ⟨rfl, b1⟩
    have A2 := (A.later b1).alloc (.cells #[.int .u64 (h1 : Int), .int .u64 (h2 : Int)] 24)
    have Z2 := (Z.later b1).alloc (.cells #[.int .u64 (h1 : Int), .int .u64 (h2 : Int)] 24)
    have B1 := B.trans (b1.mono B.size)
    have B2 := B1.alloc B1.size (.cells #[.int .u64 (h1 : Int), .int .u64 (h2 : Int)] 24)
    have K2 := AB.at0 w1 24 [.int .u64 (h1 : Int), .int .u64 (h2 : Int)]
    obtain ⟨i0, i1, i2, i3, -⟩ := A2.four
    obtain ⟨k0, k1, -⟩ := K2.two
    have hn : w.heap.size + 1 < w1.heap.size := Nat.lt_of_lt_of_le Z.lt b1.size
    clear A B Z b1 B1
    have HA := hide_ A2
    have HZ := hide_ Z2
    have HB := hide_ B2
    have HK := hide_ K2
    clear A2 Z2 B2 K2
    go_wp2_with fail
    have A := HA.out
    have Z := HZ.out
    have B := HB.out
    have K := HK.out
    clear HA HZ HB HK i0 i1 i2 i3 k0 k1
    generalize w1.alloc (.cells #[.int .u64 (h1 : Int), .int .u64 (h2 : Int)] 24) = W at *
    generalize w1.heap.size = n at *
    clear w1
    refine (q3.out _).mono ?_
    rintro e w1 ⟨rfl, b1⟩
    have A1 := A.later b1
    have Z1 := Z.later b1
    have B1 := B.trans (b1.mono B.size)
    have K1 := K.later b1
    obtain ⟨o0, o1, o2, o3, o4, o5, o6, o7⟩ := A1.four
    have A2 := ((A1.set (j := 2) (.int .u64 (m1 : Int))).set (j := 3) (.int .u64 (m2 : Int)))
    have Z2 := ((Z1.far (.int .u64 (m1 : Int)) (f := w.heap.size) (o := 2) (by omega)).far (.int .u64 (m2 : Int)) (f := w.heap.size) (o := 3) (by omega))
    have B2 := ((B1.setCell (p := ⟨w.heap.size, 2, none⟩) (Nat.le_refl _) (.int .u64 (m1 : Int))).setCell (p := ⟨w.heap.size, 3, none⟩) (Nat.le_refl _) (.int .u64 (m2 : Int)))
    have K2 := ((K1.far (.int .u64 (m1 : Int)) (f := w.heap.size) (o := 2) (by omega)).far (.int .u64 (m2 : Int)) (f := w.heap.size) (o := 3) (by omega))
    obtain ⟨i0, i1, i2, i3, -⟩ := A2.four
    obtain ⟨k0, k1, -⟩ := K2.two
    obtain ⟨s0, s1, s2, s3, s4, s5, s6, s7⟩ := Z2.four
    clear A B Z K b1 B1 Z1 A1 K1
    have HA := hide_ A2
    have HZ := hide_ Z2
    have HB := hide_ B2
    have HK := hide_ K2
    clear A2 Z2 B2 K2
    go_wp2_with fail
    have A := HA.out
    have Z := HZ.out
    have B := HB.out
    have K := HK.out
    clear HA HZ HB HK o0 o1 o2 o3 o4 o5 o6 o7 i0 i1 i2 i3 s0 s1 s2 s3 s4 s5 s6 s7 k0 k1
    generalize ((w1.setCell ⟨w.heap.size, 2, none⟩ (.int .u64 (m1 : Int))).setCell ⟨w.heap.size, 3, none⟩ (.int .u64 (m2 : Int))) = W at *
    clear w1
    refine (q5.out _).mono ?_
    rintro e w1 ⟨rfl, b1⟩
    have A1 := A.later b1
    have Z1 := Z.later b1
    have B1 := B.trans (b1.mono B.size)
    have K1 := K.later b1
    obtain ⟨o0, o1, o2, o3, o4, o5, o6, o7⟩ := A1.four
    have A2 := ((A1.set (j := 0) (.int .u64 (l1 : Int))).set (j := 1) (.int .u64 (l2 : Int)))
    have Z2 := ((Z1.far (.int .u64 (l1 : Int)) (f := w.heap.size) (o := 0) (by omega)).far (.int .u64 (l2 : Int)) (f := w.heap.size) (o := 1) (by omega))
    have B2 := ((B1.setCell (p := ⟨w.heap.size, 0, none⟩) (Nat.le_refl _) (.int .u64 (l1 : Int))).setCell (p := ⟨w.heap.size, 1, none⟩) (Nat.le_refl _) (.int .u64 (l2 : Int)))
    have K2 := ((K1.far (.int .u64 (l1 : Int)) (f := w.heap.size) (o := 0) (by omega)).far (.int .u64 (l2 : Int)) (f := w.heap.size) (o := 1) (by omega))
    obtain ⟨i0, i1, i2, i3, -⟩ := A2.four
    obtain ⟨k0, k1, -⟩ := K2.two
    obtain ⟨s0, s1, s2, s3, s4, s5, s6, s7⟩ := Z2.four
    clear A B Z K b1 B1 Z1 A1 K1
    have HA := hide_ A2
    have HZ := hide_ Z2
    have HB := hide_ B2
    have HK := hide_ K2
    clear A2 Z2 B2 K2
    go_wp2_with fail
    have G := HZ.out.room.fill (.int .u64 (l1 : Int)) (.int .u64 (l2 : Int)) (.int .u64 (m1 : Int)) (.int .u64 (m2 : Int))
    have BB := below_fill HB.out (g := w.heap.size + 1) (Nat.le_succ _) (.int .u64 (l1 : Int)) (.int .u64 (l2 : Int)) (.int .u64 (m1 : Int)) (.int .u64 (m2 : Int))
    obtain ⟨g0, g1, g2, g3, -⟩ := G.four
    exact bodyPost_ret (v := .agg #[.int .u64 (l1 : Int), .int .u64 (l2 : Int), .int .u64 (m1 : Int), .int .u64 (m2 : Int)]) (by simp [results, Try.results59, go_sem, g0, g1, g2, g3]) rfl ⟨rfl, BB⟩
  · have A := (AB.at0 w 26 [.int .u64 (a : Int), .int .u64 (b : Int), .int .u64 (c : Int), .int .u64 (d : Int)]).alloc (.cells #[.int .u64 (0 : Int), .int .u64 (0 : Int), .int .u64 (0 : Int), .int .u64 (0 : Int)] 26)
    have Z := AB.at1 w (.cells #[.int .u64 (a : Int), .int .u64 (b : Int), .int .u64 (c : Int), .int .u64 (d : Int)] 26) 26 [.int .u64 (0 : Int), .int .u64 (0 : Int), .int .u64 (0 : Int), .int .u64 (0 : Int)]
    have B := below2 w (.cells #[.int .u64 (a : Int), .int .u64 (b : Int), .int .u64 (c : Int), .int .u64 (d : Int)] 26) (.cells #[.int .u64 (0 : Int), .int .u64 (0 : Int), .int .u64 (0 : Int), .int .u64 (0 : Int)] 26)
    have HA := hide_ A
    have HZ := hide_ Z
    have HB := hide_ B
    clear A Z B
    go_enter Try.func59, Try.ntmps59
    go_wp2_with fail
    have A := HA.out
    have Z := HZ.out
    have B := HB.out
    clear HA HZ HB
    generalize ((w.alloc (.cells #[.int .u64 (a : Int), .int .u64 (b : Int), .int .u64 (c : Int), .int .u64 (d : Int)] 26)).alloc (.cells #[.int .u64 (0 : Int), .int .u64 (0 : Int), .int .u64 (0 : Int), .int .u64 (0 : Int)] 26)) = W at *
    refine (q1.out _).mono ?_
    rintro e w1 ⟨rfl, b1⟩
    have A1 := A.later b1
    have Z1 := Z.later b1
    have B1 := B.trans (b1.mono B.size)
    obtain ⟨o0, o1, o2, o3, o4, o5, o6, o7⟩ := A1.four
    have A2 := ((((A1.set (j := 0) (.int .u64 (x1 : Int))).set (j := 1) (.int .u64 (x2 : Int))).set (j := 2) (.int .u64 (c : Int))).set (j := 3) (.int .u64 (d : Int)))
    have Z2 := ((((Z1.far (.int .u64 (x1 : Int)) (f := w.heap.size) (o := 0) (by omega)).far (.int .u64 (x2 : Int)) (f := w.heap.size) (o := 1) (by omega)).far (.int .u64 (c : Int)) (f := w.heap.size) (o := 2) (by omega)).far (.int .u64 (d : Int)) (f := w.heap.size) (o := 3) (by omega))
    have B2 := ((((B1.setCell (p := ⟨w.heap.size, 0, none⟩) (Nat.le_refl _) (.int .u64 (x1 : Int))).setCell (p := ⟨w.heap.size, 1, none⟩) (Nat.le_refl _) (.int .u64 (x2 : Int))).setCell (p := ⟨w.heap.size, 2, none⟩) (Nat.le_refl _) (.int .u64 (c : Int))).setCell (p := ⟨w.heap.size, 3, none⟩) (Nat.le_refl _) (.int .u64 (d : Int)))
    obtain ⟨i0, i1, i2, i3, -⟩ := A2.four
    obtain ⟨s0, s1, s2, s3, s4, s5, s6, s7⟩ := Z2.four
    clear A B Z b1 B1 Z1 A1
    have HA := hide_ A2
    have HZ := hide_ Z2
    have HB := hide_ B2
    clear A2 Z2 B2
    go_wp2_with fail
    have A := HA.out
    have Z := HZ.out
    have B := HB.out
    clear HA HZ HB o0 o1 o2 o3 o4 o5 o6 o7 i0 i1 i2 i3 s0 s1 s2 s3 s4 s5 s6 s7
    generalize ((((w1.setCell ⟨w.heap.size, 0, none⟩ (.int .u64 (x1 : Int))).setCell ⟨w.heap.size, 1, none⟩ (.int .u64 (x2 : Int))).setCell ⟨w.heap.size, 2, none⟩ (.int .u64 (c : Int))).setCell ⟨w.heap.size, 3, none⟩ (.int .u64 (d : Int))) = W at *
    clear w1
    refine (q2.out _).mono ?_
    rintro e w1 ⟨rfl, b1⟩
    have A2 := (A.later b1).alloc (.cells #[.int .u64 (h1 : Int), .int .u64 (h2 : Int)] 24)
    have Z2 := (Z.later b1).alloc (.cells #[.int .u64 (h1 : Int), .int .u64 (h2 : Int)] 24)
    have B1 := B.trans (b1.mono B.size)
    have B2 := B1.alloc B1.size (.cells #[.int .u64 (h1 : Int), .int .u64 (h2 : Int)] 24)
    have K2 := AB.at0 w1 24 [.int .u64 (h1 : Int), .int .u64 (h2 : Int)]
    obtain ⟨i0, i1, i2, i3, -⟩ := A2.four
    obtain ⟨k0, k1, -⟩ := K2.two
    have hn : w.heap.size + 1 < w1.heap.size := Nat.lt_of_lt_of_le Z.lt b1.size
    clear A B Z b1 B1
    have HA := hide_ A2
    have HZ := hide_ Z2
    have HB := hide_ B2
    have HK := hide_ K2
    clear A2 Z2 B2 K2
    go_wp2_with fail
    have A := HA.out
    have Z := HZ.out
    have B := HB.out
    have K := HK.out
    clear HA HZ HB HK i0 i1 i2 i3 k0 k1
    generalize w1.alloc (.cells #[.int .u64 (h1 : Int), .int .u64 (h2 : Int)] 24) = W at *
    generalize w1.heap.size = n at *
    clear w1
    refine (q3.out _).mono ?_
    rintro e w1 ⟨rfl, b1⟩
    have A1 := A.later b1
    have Z1 := Z.later b1
    have B1 := B.trans (b1.mono B.size)
    have K1 := K.later b1
    obtain ⟨o0, o1, o2, o3, o4, o5, o6, o7⟩ := A1.four
    have A2 := ((A1.set (j := 2) (.int .u64 (m1 : Int))).set (j := 3) (.int .u64 (m2 : Int)))
    have Z2 := ((Z1.far (.int .u64 (m1 : Int)) (f := w.heap.size) (o := 2) (by omega)).far (.int .u64 (m2 : Int)) (f := w.heap.size) (o := 3) (by omega))
    have B2 := ((B1.setCell (p := ⟨w.heap.size, 2, none⟩) (Nat.le_refl _) (.int .u64 (m1 : Int))).setCell (p := ⟨w.heap.size, 3, none⟩) (Nat.le_refl _) (.int .u64 (m2 : Int)))
    have K2 := ((K1.far (.int .u64 (m1 : Int)) (f := w.heap.size) (o := 2) (by omega)).far (.int .u64 (m2 : Int)) (f := w.heap.size) (o := 3) (by omega))
    obtain ⟨i0, i1, i2, i3, -⟩ := A2.four
    obtain ⟨k0, k1, -⟩ := K2.two
    obtain ⟨s0, s1, s2, s3, s4, s5, s6, s7⟩ := Z2.four
    clear A B Z K b1 B1 Z1 A1 K1
    have HA := hide_ A2
    have HZ := hide_ Z2
    have HB := hide_ B2
    have HK := hide_ K2
    clear A2 Z2 B2 K2
    go_wp2_with fail
    have A := HA.out
    have Z := HZ.out
    have B := HB.out
    have K := HK.out
    clear HA HZ HB HK o0 o1 o2 o3 o4 o5 o6 o7 i0 i1 i2 i3 s0 s1 s2 s3 s4 s5 s6 s7 k0 k1
    generalize ((w1.setCell ⟨w.heap.size, 2, none⟩ (.int .u64 (m1 : Int))).setCell ⟨w.heap.size, 3, none⟩ (.int .u64 (m2 : Int))) = W at *
    clear w1
    refine (q5.out _).mono ?_
    rintro e w1 ⟨rfl, b1⟩
    have A1 := A.later b1
    have Z1 := Z.later b1
    have B1 := B.trans (b1.mono B.size)
    have K1 := K.later b1
    obtain ⟨o0, o1, o2, o3, o4, o5, o6, o7⟩ := A1.four
    have A2 := ((A1.set (j := 0) (.int .u64 (l1 : Int))).set (j := 1) (.int .u64 (l2 : Int)))
    have Z2 := ((Z1.far (.int .u64 (l1 : Int)) (f := w.heap.size) (o := 0) (by omega)).far (.int .u64 (l2 : Int)) (f := w.heap.size) (o := 1) (by omega))
    have B2 := ((B1.setCell (p := ⟨w.heap.size, 0, none⟩) (Nat.le_refl _) (.int .u64 (l1 : Int))).setCell (p := ⟨w.heap.size, 1, none⟩) (Nat.le_refl _) (.int .u64 (l2 : Int)))
    have K2 := ((K1.far (.int .u64 (l1 : Int)) (f := w.heap.size) (o := 0) (by omega)).far (.int .u64 (l2 : Int)) (f := w.heap.size) (o := 1) (by omega))
    obtain ⟨i0, i1, i2, i3, -⟩ := A2.four
    obtain ⟨k0, k1, -⟩ := K2.two
    obtain ⟨s0, s1, s2, s3, s4, s5, s6, s7⟩ := Z2.four
    clear A B Z K b1 B1 Z1 A1 K1
    have HA := hide_ A2
    have HZ := hide_ Z2
    have HB := hide_ B2
    have HK := hide_ K2
    clear A2 Z2 B2 K2
    go_wp2_with fail
    have A := HA.out
    have Z := HZ.out
    have B := HB.out
    have K := HK.out
    clear HA HZ HB HK o0 o1 o2 o3 o4 o5 o6 o7 i0 i1 i2 i3 s0 s1 s2 s3 s4 s5 s6 s7 k0 k1
    generalize ((w1.setCell ⟨w.heap.size, 0, none⟩ (.int .u64 (l1 : Int))).setCell ⟨w.heap.size, 1, none⟩ (.int .u64 (l2 : Int))) = W at *
    clear w1
    refine (q4.out _).mono ?_
    rintro e w1 ⟨rfl, b1⟩
    have A1 := A.later b1
    have Z1 := Z.later b1
    have B1 := B.trans (b1.mono B.size)
    have K1 := K.later b1
    obtain ⟨o0, o1, o2, o3, o4, o5, o6, o7⟩ := A1.four
    have A2 := ((A1.set (j := 0) (.int .u64 (r1 : Int))).set (j := 1) (.int .u64 (r2 : Int)))
    have Z2 := ((Z1.far (.int .u64 (r1 : Int)) (f := w.heap.size) (o := 0) (by omega)).far (.int .u64 (r2 : Int)) (f := w.heap.size) (o := 1) (by omega))
    have B2 := ((B1.setCell (p := ⟨w.heap.size, 0, none⟩) (Nat.le_refl _) (.int .u64 (r1 : Int))).setCell (p := ⟨w.heap.size, 1, none⟩) (Nat.le_refl _) (.int .u64 (r2 : Int)))
    have K2 := ((K1.far (.int .u64 (r1 : Int)) (f := w.heap.size) (o := 0) (by omega)).far (.int .u64 (r2 : Int)) (f := w.heap.size) (o := 1) (by omega))
    obtain ⟨i0, i1, i2, i3, -⟩ := A2.four
    obtain ⟨k0, k1, -⟩ := K2.two
    obtain ⟨s0, s1, s2, s3, s4, s5, s6, s7⟩ := Z2.four
    clear A B Z K b1 B1 Z1 A1 K1
    have HA := hide_ A2
    have HZ := hide_ Z2
    have HB := hide_ B2
    have HK := hide_ K2
    clear A2 Z2 B2 K2
    go_wp2_with fail
    have G := HZ.out.room.fill (.int .u64 (r1 : Int)) (.int .u64 (r2 : Int)) (.int .u64 (m1 : Int)) (.int .u64 (m2 : Int))
    have BB := below_fill HB.out (g := w.heap.size + 1) (Nat.le_succ _) (.int .u64 (r1 : Int)) (.int .u64 (r2 : Int)) (.int .u64 (m1 : Int)) (.int .u64 (m2 : Int))
    obtain ⟨g0, g1, g2, g3, -⟩ := G.four
    exact bodyPost_ret (v := .agg #[.int .u64 (r1 : Int), .int .u64 (r2 : Int), .int .u64 (m1 : Int), .int .u64 (m2 : Int)]) (by simp [results, Try.results59, go_sem, g0, g1, g2, g3]) rfl ⟨rfl, BB⟩
end

section
open Go Go.RowKit
set_option linter.unusedVariables false
set_option linter.unusedSimpArgs false

/-- how long a slice is -/
def slen : Value → Nat
  | .slice _ n _ => n
  | _ => 0

theorem own_far {w : World} {base n g o size : Nat} {e : TypeId} {v : Value} {xs : List Value} (h : w.ownsRow base e size v n xs) (hg : g < base) (x : Value) : (w.setCell ⟨g, o, none⟩ x).ownsRow base e size v n xs := by
  refine ⟨h.1, ?_⟩
  rcases h.2 with hn | ⟨k, cap, cur, rfl, hk, hkk, rest⟩
  · exact Or.inl hn
  · exact Or.inr ⟨k, cap, cur, rfl, hk, by rw [Go.heap_setCell_other w ⟨g, o, none⟩ k x (by dsimp only; omega)]; exact hkk, rest⟩

theorem bit_nat (k : Nat) (w : World) (h : k < 128) : Calls Try.prog 71 #[.int .i64 (k : Int)] w fun e w' => e = .returned (wd (bh k) (bl k)) ∧ Below w.heap.size w w' := by
  have := bit_any (k : Int) w
  rwa [bhz_nat k h, blz_nat k h] at this

theorem rhasb (a b k : Nat) (w : World) (ha : a < 18446744073709551616) (hb : b < 18446744073709551616) (h : k < 128) : Calls Try.prog 58 #[wd a b, .int .i64 (k : Int)] w fun e w' => e = .returned (.bool (hasb a b k)) ∧ Below w.heap.size w w' := by
  have := rhas_any a b (k : Int) w ha hb
  rwa [hasz_nat a b k h] at this

set_option maxRecDepth 100000 in
set_option maxHeartbeats 1000000 in
theorem highest_any (a b : Nat) (w : World) (ha : a < 18446744073709551616) (hb : b < 18446744073709551616) (h : (a == 0 && b == 0) = false) :
    Calls Try.prog 70 #[wd a b] w fun e w' => e = .returned (.int .i64 (top a b : Nat)) ∧ Below w.heap.size w w' := by
  have q1 := hide_ (fun w => len64_any a w ha)
  have q2 := hide_ (fun w => len64_any b w hb)
  unfold wd
  by_cases h0 : a = 0
  · subst h0
    have hb0 : b ≠ 0 := by rintro rfl; simp at h
    have e : top 0 b = Lib.bitLen b - 1 := by unfold top; rw [if_pos rfl]
    obtain ⟨p, q, -, -⟩ := bitLen_top b hb hb0
    rw [e]
    clear e h ha hb hb0 q1
    generalize Lib.bitLen b = m at *
    go_enter Try.func70, Try.ntmps70
    go_wp2_with (go_at_call 74; refine (q2.out _).mono ?_; rintro e w1 ⟨rfl, rfl⟩)
    go_ret
    exact ⟨ret_int (by omega), by go_grown⟩
  · have h0' : (((a : Nat) : Int) == 0) = false := by simp; omega
    have e : top a b = 64 + Lib.bitLen a - 1 := by unfold top; rw [if_neg h0]
    obtain ⟨p, q, -, -⟩ := bitLen_top a ha h0
    rw [e]
    clear e h ha hb h0 q2
    generalize Lib.bitLen a = m at *
    go_enter Try.func70, Try.ntmps70
    go_wp2_with (go_at_call 74; refine (q1.out _).mono ?_; rintro e w1 ⟨rfl, rfl⟩)
    go_ret
    exact ⟨ret_int (by omega), by go_grown⟩

set_option maxRecDepth 100000 in
set_option maxHeartbeats 2000000 in
theorem rtbits_any (a b c d a2 b2 c2 d2 : Nat) (w : World) (ha : a < 18446744073709551616) (hb : b < 18446744073709551616) (hc : c < 18446744073709551616) (hd : d < 18446744073709551616) (ha2 : a2 < 18446744073709551616) (hb2 : b2 < 18446744073709551616) (hc2 : c2 < 18446744073709551616) (hd2 : d2 < 18446744073709551616) :
    Calls Try.prog 57 #[td a b c d, td a2 b2 c2 d2] w fun e w' => ∃ u, e = .returned u ∧ Cells w' u 1 (fall (hasb (andn c2 c) (andn d2 d)) 128).length (i64s (fall (hasb (andn c2 c) (andn d2 d)) 128)) ∧ Below w.heap.size w w' := by
  have Y1 := hide_ (fun (j : Nat) (hj : j < 128) w => rhasb c2 d2 j w hc2 hd2 hj)
  have Y2 := hide_ (fun (j : Nat) (hj : j < 128) w => rhasb c d j w hc hd hj)
  rw [show fall (hasb (andn c2 c) (andn d2 d)) 128 = fall (fun i => hasb c2 d2 i && !hasb c d i) 128 from fall_congr (fun i hi => less_hasb c2 d2 c d i hc hd hi)]
  have HL0 := fall_len (fun i => hasb c2 d2 i && !hasb c d i) 128
  obtain ⟨P, hP⟩ : ∃ P : Nat → Bool, (fun i => hasb c2 d2 i && !hasb c d i) = P := ⟨_, rfl⟩
  have HPP : Hid (∀ i, P i = (hasb c2 d2 i && !hasb c d i)) := hide_ (fun i => by rw [← hP])
  rw [hP] at HL0 ⊢
  clear hP
  generalize hasb c2 d2 = p1 at *
  generalize hasb c d = p2 at *
  obtain ⟨L, HL⟩ : ∃ L, fall P 128 = L := ⟨_, rfl⟩
  rw [HL] at HL0 ⊢
  obtain ⟨i0, hi0, hz0, hz1, hz2⟩ := info_parts info3
  have HI : Hid (Try.prog.info? 3 = some i0 ∧ i0.zero = some (.int .i64 0) ∧ i0.size = 1 ∧ i0.bytes = 8) := ⟨hi0, hz0, hz1, hz2⟩
  clear hi0 hz0 hz1 hz2 ha hb hc hd ha2 hb2 hc2 hd2
  have HF := hide_ HL
  clear HL
  unfold td at *
  unfold wd at *
  have hA := hide_ (((AB.at0 w 26 [.int .u64 (a : Int), .int .u64 (b : Int), .int .u64 (c : Int), .int .u64 (d : Int)]).alloc (.cells #[.int .u64 (a2 : Int), .int .u64 (b2 : Int), .int .u64 (c2 : Int), .int .u64 (d2 : Int)] 26)).alloc (.cells #[] 3))
  have hC := hide_ ((AB.at1 w (.cells #[.int .u64 (a : Int), .int .u64 (b : Int), .int .u64 (c : Int), .int .u64 (d : Int)] 26) 26 [.int .u64 (a2 : Int), .int .u64 (b2 : Int), .int .u64 (c2 : Int), .int .u64 (d2 : Int)]).alloc (.cells #[] 3))
  have hB := hide_ (below3 w (.cells #[.int .u64 (a : Int), .int .u64 (b : Int), .int .u64 (c : Int), .int .u64 (d : Int)] 26) (.cells #[.int .u64 (a2 : Int), .int .u64 (b2 : Int), .int .u64 (c2 : Int), .int .u64 (d2 : Int)] 26) (.cells #[] 3))
  have hO : Hid (World.ownsRow (((w.alloc (.cells #[.int .u64 (a : Int), .int .u64 (b : Int), .int .u64 (c : Int), .int .u64 (d : Int)] 26)).alloc (.cells #[.int .u64 (a2 : Int), .int .u64 (b2 : Int), .int .u64 (c2 : Int), .int .u64 (d2 : Int)] 26)).alloc (.cells #[] 3)) (w.heap.size + 1 + 1) 3 1 (.slice (some ⟨w.heap.size + 1 + 1, 0, none⟩) 0 0) 0 []) := hide_ (by have := World.ownsRow_made (base := w.heap.size + 1 + 1) (e := 3) (size := 1) ((w.alloc (.cells #[.int .u64 (a : Int), .int .u64 (b : Int), .int .u64 (c : Int), .int .u64 (d : Int)] 26)).alloc (.cells #[.int .u64 (a2 : Int), .int .u64 (b2 : Int), .int .u64 (c2 : Int), .int .u64 (d2 : Int)] 26)) #[] 0 (by simp) (Nat.zero_le _) rfl; simpa using this)
  go_enter Try.func57, Try.ntmps57
  go_wp2_with fail
  generalize (((w.alloc (.cells #[.int .u64 (a : Int), .int .u64 (b : Int), .int .u64 (c : Int), .int .u64 (d : Int)] 26)).alloc (.cells #[.int .u64 (a2 : Int), .int .u64 (b2 : Int), .int .u64 (c2 : Int), .int .u64 (d2 : Int)] 26)).alloc (.cells #[] 3)) = W at *
  go_loopw [5, 6] (fun u i wr => ∃ (k m : Nat) (ua : Option Addr) (uc : Nat) (out : List Nat), k ≤ 128 ∧ i = .int .i64 ((k : Int) - 1) ∧ u = .slice ua m uc ∧ Hid (out ++ fall P k = L) ∧ Hid (m = out.length) ∧ Hid (AB wr w.heap.size 26 [.int .u64 (a : Int), .int .u64 (b : Int), .int .u64 (c : Int), .int .u64 (d : Int)]) ∧ Hid (AB wr (w.heap.size + 1) 26 [.int .u64 (a2 : Int), .int .u64 (b2 : Int), .int .u64 (c2 : Int), .int .u64 (d2 : Int)]) ∧ Hid (wr.ownsRow (w.heap.size + 1 + 1) 3 1 (.slice ua m uc) m (i64s out)) ∧ Below w.heap.size w wr) (fun _ i _ => (intOf i + 1).toNat)
  case atStart => exact ⟨128, 0, _, _, [], Nat.le_refl _, rfl, rfl, hide_ (by simpa using HF.out), hide_ rfl, hA, hC, by simpa [i64s] using hO, hB.out⟩
  case round =>
    obtain ⟨k, m, ua, uc, out, hk, hi, rfl, HF1, HM, HA, HC, HO, hb⟩ := hrel
    cases k with
    | zero =>
      have e : ((0 : Nat) : Int) - 1 = -1 := by omega
      rw [e] at hi
      subst hi
      go_wp2_with fail
      go_ret
      have e1 : out = L := by have := HF1.out; simpa [fall] using this
      have e2 := HM.out
      subst e2
      subst e1
      exact ⟨_, rfl, Cells.ofOwn HO.out, hb⟩
    | succ j =>
      have e : ((j + 1 : Nat) : Int) - 1 = (j : Int) := by omega
      rw [e] at hi
      subst hi
      have g1 : (0 : Int) ≤ (j : Int) := by omega
      have y1 := hide_ (Y1.out j (by omega))
      have y2 := hide_ (Y2.out j (by omega))
      have HP := hide_ (HPP.out j)
      obtain ⟨-, -, o2, o3, -⟩ := HC.out.four
      obtain ⟨-, -, i2, i3, -⟩ := HA.out.four
      have hml : m + (fall P (j + 1)).length = L.length := by rw [← HF1.out, HM.out]; simp
      cases h1 : p1 j
      · rw [h1] at y1 HP
        go_wp2_with (first | (go_at_call_of 58 (Value.int IntKind.u64 (c2 : Int)); refine (y1.out _).mono ?_; rintro e wy1 ⟨rfl, by1⟩; obtain ⟨-, -, m2, m3, -⟩ := (HA.out.later by1).four))
        go_roundw
        case rel => exact ⟨j, m, ua, uc, out, by omega, by go_num, rfl, hide_ (by rw [← HF1.out, fall, HP.out]; simp), HM, hide_ (HA.out.later by1), hide_ (HC.out.later by1), hide_ (ownsRow_later HO.out by1), hb.trans (by1.mono hb.size)⟩
        case measure => simp [intOf]
      · rw [h1] at y1 HP
        cases h2 : p2 j
        · rw [h2] at y2 HP
          have hml2 : m + 1 ≤ L.length := by rw [← hml, fall, HP.out]; simp
          go_wp2_with (first | (go_at_call_of 58 (Value.int IntKind.u64 (c2 : Int)); refine (y1.out _).mono ?_; rintro e wy1 ⟨rfl, by1⟩; obtain ⟨-, -, m2, m3, -⟩ := (HA.out.later by1).four) | (go_at_call_of 58 (Value.int IntKind.u64 (c : Int)); refine (y2.out _).mono ?_; rintro e wy2 ⟨rfl, by2⟩) | (at_builtin; refine wpList_append_new (.tmp 23) (.tmp 25) 81 rfl 3 i0 (.int .i64 0) 1 8 Try.underlying81 HI.out.1 HI.out.2.1 HI.out.2.2.1 HI.out.2.2.2 rfl (by decide) (w.heap.size + 1 + 1) (.slice ua m uc) m (i64s out) (by simp [Act.eval, Act.put]) wy2 (ownsRow_later HO.out (by1.trans (by2.mono by1.size))) [.int .i64 (j : Int)] _ rfl 1 (by simp) (by simp [Value.oneCell']) (by simp [Act.eval, Act.put]) (by simp [Region.wanted]) (by unfold maxLen; omega) (by omega) (Nat.lt_of_lt_of_le HC.out.lt (Nat.le_trans by1.size by2.size)) ?_; intro v4 w4 ho4 hb4; obtain ⟨va, vc, rfl⟩ := own_slice ho4; have HO4 := hide_ ho4; have K4 : Hid (Below (w.heap.size + 1 + 1) wr w4) := hide_ (((by1.trans (by2.mono by1.size)).mono HC.out.lt).trans hb4); clear ho4 hb4))
          go_roundw
          case rel => exact ⟨j, m + 1, va, vc, out ++ [j], by omega, by go_num, rfl, hide_ (by rw [← HF1.out, fall, HP.out]; simp), hide_ (by have := HM.out; simp; omega), hide_ (HA.out.below K4.out (by omega)), hide_ (HC.out.below K4.out (by omega)), hide_ (by rw [i64s_app]; exact HO4.out), hb.trans (K4.out.mono (by omega))⟩
          case measure => simp [intOf]
        · rw [h2] at y2 HP
          go_wp2_with (first | (go_at_call_of 58 (Value.int IntKind.u64 (c2 : Int)); refine (y1.out _).mono ?_; rintro e wy1 ⟨rfl, by1⟩; obtain ⟨-, -, m2, m3, -⟩ := (HA.out.later by1).four) | (go_at_call_of 58 (Value.int IntKind.u64 (c : Int)); refine (y2.out _).mono ?_; rintro e wy2 ⟨rfl, by2⟩))
          go_roundw
          case rel => exact ⟨j, m, ua, uc, out, by omega, by go_num, rfl, hide_ (by rw [← HF1.out, fall, HP.out]; simp), HM, hide_ (HA.out.later (by1.trans (by2.mono by1.size))), hide_ (HC.out.later (by1.trans (by2.mono by1.size))), hide_ (ownsRow_later HO.out (by1.trans (by2.mono by1.size))), hb.trans ((by1.trans (by2.mono by1.size)).mono hb.size)⟩
          case measure => simp [intOf]
end

end Go.Proofs.Ytbdbehdgpmfelaa
