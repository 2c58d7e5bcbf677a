import Derived.Test.YtickphnfgaibiaaProg
import Derived.Test.YtickphnfgaibiaaN
import Derived.Test.YtickphnfgaibiaaK
import Derived.Test.YtickphnfgaibiaaR
import Derived.Test.YtickphnfgaibiaaS
import Derived.Test.YtickphnfgaibiaaU
import Derived.Test.YtickphnfgaibiaaV
import Derived.Test.YtickphnfgaibiaaCc
import Derived.Test.YtickphnfgaibiaaFe
import Derived.Test.YtickphnfgaibiaaHa
import Derived.Test.YtickphnfgaibiaaHc
import Derived.Test.YtickphnfgaibiaaHh
import Derived.Test.YtickphnfgaibiaaHr
import Derived.Test.YtickphnfgaibiaaGa
import Derived.Test.YtickphnfgaibiaaTb
import Derived.Test.YtickphnfgaibiaaTc
import Derived.Test.YtickphnfgaibiaaTd
import Derived.Test.YtickphnfgaibiaaTl
import Derived.Below
import Derived.BigQuiet
import Derived.BigRegion
import Derived.ChangeAlike
import Derived.ChangeKeysEq
import Derived.ChangeSame
import Derived.DataElems
import Derived.Deep.MidRow
import Derived.Deep.QuietTactic
import Derived.Deep.RegionHeld
import Derived.Deep.RegionHeld3
import Derived.Deep.RegionLaw
import Derived.Deep.RegionLawGrows
import Derived.Deep.RegionWith
import Derived.Deep.WholeRow
import Derived.Great.BuildSlice
import Derived.Handy
import Derived.Laws.AppendOwn
import Derived.Laws.AppendOwnNone
import Derived.Laws.BitsAllLaws
import Derived.Laws.BitsLemmas
import Derived.Laws.CopyOwn
import Derived.Laws.OwnMore
import Derived.Laws.Rows
import Derived.Laws.StructEq
import Derived.Laws.Tables
import Derived.Lib.BitFns
import Derived.Lib.SmallJoins
import Derived.OpenShut
import Derived.ProofKit
import Derived.RegionTactic
import Derived.WalkKit
import Derived.WalkLawsBesides
import Derived.WalkSmall
import Derived.WalkSpells
import Derived.WideShapes
namespace Go.Proofs.Ytickphnfgaibiaa
open Go Go.RowKit
set_option linter.unusedVariables false
set_option linter.unusedSimpArgs false

/-- how long a slice is -/
def slen : Value → Nat
  | .slice _ n _ => n
  | _ => 0

theorem own_far {w : World} {base n g o size : Nat} {e : TypeId} {v : Value} {xs : List Value} (h : w.ownsRow base e size v n xs) (hg : g < base) (x : Value) : (w.setCell ⟨g, o, none⟩ x).ownsRow base e size v n xs := by
  refine ⟨h.1, ?_⟩
  rcases h.2 with hn | ⟨k, cap, cur, rfl, hk, hkk, rest⟩
  · exact Or.inl hn
  · exact Or.inr ⟨k, cap, cur, rfl, hk, by rw [Go.heap_setCell_other w ⟨g, o, none⟩ k x (by dsimp only; omega)]; exact hkk, rest⟩

theorem bit_nat (k : Nat) (w : World) (h : k < 128) : Calls Try.prog 72 #[.int .i64 (k : Int)] w fun e w' => e = .returned (wd (bh k) (bl k)) ∧ Below w.heap.size w w' := by
  have := bit_any (k : Int) w
  rwa [bhz_nat k h, blz_nat k h] at this

theorem rhasb (a b k : Nat) (w : World) (ha : a < 18446744073709551616) (hb : b < 18446744073709551616) (h : k < 128) : Calls Try.prog 60 #[wd a b, .int .i64 (k : Int)] w fun e w' => e = .returned (.bool (hasb a b k)) ∧ Below w.heap.size w w' := by
  have := rhas_any a b (k : Int) w ha hb
  rwa [hasz_nat a b k h] at this

set_option maxRecDepth 100000 in
set_option maxHeartbeats 1000000 in
theorem highest_any (a b : Nat) (w : World) (ha : a < 18446744073709551616) (hb : b < 18446744073709551616) (h : (a == 0 && b == 0) = false) :
    Calls Try.prog 71 #[wd a b] w fun e w' => e = .returned (.int .i64 (top a b : Nat)) ∧ Below w.heap.size w w' := by
  have q1 := hide_ (fun w => len64_any a w ha)
  have q2 := hide_ (fun w => len64_any b w hb)
  unfold wd
  by_cases h0 : a = 0
  · subst h0
    have hb0 : b ≠ 0 := by rintro rfl; simp at h
    have e : top 0 b = Lib.bitLen b - 1 := by unfold top; rw [if_pos rfl]
    obtain ⟨p, q, -, -⟩ := bitLen_top b hb hb0
    rw [e]
    clear e h ha hb hb0 q1
    generalize Lib.bitLen b = m at *
    go_enter Try.func71, Try.ntmps71
    go_wp2_with (go_at_call 74; refine (q2.out _).mono ?_; rintro e w1 ⟨rfl, rfl⟩)
    go_ret
    exact ⟨ret_int (by omega), by go_grown⟩
  · have h0' : (((a : Nat) : Int) == 0) = false := by simp; omega
    have e : top a b = 64 + Lib.bitLen a - 1 := by unfold top; rw [if_neg h0]
    obtain ⟨p, q, -, -⟩ := bitLen_top a ha h0
    rw [e]
    clear e h ha hb h0 q2
    generalize Lib.bitLen a = m at *
    go_enter Try.func71, Try.ntmps71
    go_wp2_with (go_at_call 74; refine (q1.out _).mono ?_; rintro e w1 ⟨rfl, rfl⟩)
    go_ret
    exact ⟨ret_int (by omega), by go_grown⟩

set_option maxRecDepth 100000 in
set_option maxHeartbeats 2000000 in
theorem tbits_any (a b c d a2 b2 c2 d2 : Nat) (w : World) (ha : a < 18446744073709551616) (hb : b < 18446744073709551616) (hc : c < 18446744073709551616) (hd : d < 18446744073709551616) (ha2 : a2 < 18446744073709551616) (hb2 : b2 < 18446744073709551616) (hc2 : c2 < 18446744073709551616) (hd2 : d2 < 18446744073709551616) :
    Calls Try.prog 56 #[td a b c d, td a2 b2 c2 d2] w fun e w' => ∃ u, e = .returned u ∧ Cells w' u 1 (fall (hasb (andn c2 c) (andn d2 d)) 128).length (i64s (fall (hasb (andn c2 c) (andn d2 d)) 128)) ∧ Below w.heap.size w w' := by
  have q1 := hide_ (fun w => less_any c2 d2 c d w hc2 hd2 hc hd)
  have hx := tandn_lt c2 c hc2
  have hy := tandn_lt d2 d hd2
  have HL0 := fall_len (hasb (andn c2 c) (andn d2 d)) 128
  generalize andn c2 c = x at *
  generalize andn d2 d = y at *
  clear ha hb hc hd ha2 hb2 hc2 hd2
  obtain ⟨L, HL⟩ : ∃ L, fall (hasb x y) 128 = L := ⟨_, rfl⟩
  rw [HL] at HL0 ⊢
  obtain ⟨i0, hi0, hz0, hz1, hz2⟩ := info_parts info3
  have HI : Hid (Try.prog.info? 3 = some i0 ∧ i0.zero = some (.int .i64 0) ∧ i0.size = 1 ∧ i0.bytes = 8) := ⟨hi0, hz0, hz1, hz2⟩
  clear hi0 hz0 hz1 hz2
  have HF := hide_ HL
  clear HL
  unfold td at *
  unfold wd at q1
  have HB := hide_ (below2 w (.cells #[.int .u64 (a : Int), .int .u64 (b : Int), .int .u64 (c : Int), .int .u64 (d : Int)] 26) (.cells #[.int .u64 (a2 : Int), .int .u64 (b2 : Int), .int .u64 (c2 : Int), .int .u64 (d2 : Int)] 26))
  go_enter Try.func56, Try.ntmps56
  go_wp2_with (go_at_call 28; refine (q1.out _).mono ?_; rintro e w1 ⟨rfl, b1⟩)
  have bb : Below w.heap.size w w1 := HB.out.trans (b1.mono HB.out.size)
  have hn : w.heap.size ≤ w1.heap.size := bb.size
  have K := AB.at0 w1 24 [.int .u64 (x : Int), .int .u64 (y : Int)]
  have BB := bb.alloc bb.size (.cells #[.int .u64 (x : Int), .int .u64 (y : Int)] 24)
  have hW : w1.heap.size + 1 ≤ (w1.alloc (.cells #[.int .u64 (x : Int), .int .u64 (y : Int)] 24)).heap.size := by simp
  clear b1 HB bb
  have HK := hide_ K
  have HB := hide_ BB
  have HW := hide_ hW
  clear K BB hW
  generalize w1.alloc (.cells #[.int .u64 (x : Int), .int .u64 (y : Int)] 24) = W at *
  generalize w1.heap.size = n at *
  go_loopw [5, 7] (fun u i wr => ∃ (ua : Option Addr) (m uc : Nat) (p q : Nat) (out : List Nat), u = .slice ua m uc ∧ p < 18446744073709551616 ∧ q < 18446744073709551616 ∧ Hid (out ++ fall (hasb p q) 128 = L) ∧ Hid (m = out.length) ∧ Hid (AB wr n 24 [.int .u64 (p : Int), .int .u64 (q : Int)]) ∧ Hid (wr.ownsRow (n + 1) 3 1 (.slice ua m uc) m (i64s out)) ∧ Hid (Below w.heap.size w wr)) (fun u _ _ => L.length - slen u)
  case atStart => exact ⟨none, 0, 0, x, y, [], rfl, hx, hy, hide_ (by simpa using HF.out), hide_ rfl, HK, hide_ (World.ownsRow_nil _ _ _ _), HB⟩
  case round =>
    obtain ⟨ua, m, uc, p, q, out, rfl, hp, hq, HO, HM, HA, HR, HBB⟩ := hrel
    have z1 := hide_ (fun w => zero_any p q w)
    obtain ⟨c0, c1, f0, f1⟩ := HA.out.two
    cases hz : (p == 0 && q == 0)
    · rw [hz] at z1
      have hm1 := HM.out
      have hr := fall_round p q hp hq hz
      have z2 := hide_ (fun w => highest_any p q w hp hq hz)
      obtain ⟨ht, -, -⟩ := top_spec p q hp hq hz
      have z3 := hide_ (fun w => bit_nat (top p q) w ht)
      have z4 := hide_ (fun w => less_any p q (bh (top p q)) (bl (top p q)) w hp hq (bh_lt _ ht) (bl_lt _))
      have lt1 := tandn_lt p (bh (top p q)) hp
      have lt2 := tandn_lt q (bl (top p q)) hq
      have HR2 : Hid ((out ++ [top p q]) ++ fall (hasb (andn p (bh (top p q))) (andn q (bl (top p q)))) 128 = L) := hide_ (by rw [← HO.out, hr]; simp)
      have hlen : m + 1 ≤ L.length := by rw [← HR2.out, hm1]; simp
      clear hr hm1 HO
      generalize andn p (bh (top p q)) = p2 at *
      generalize andn q (bl (top p q)) = q2 at *
      generalize bh (top p q) = s1 at *
      generalize bl (top p q) = s2 at *
      generalize top p q = t at *
      clear hz
      unfold wd at *
      go_wp2_with (first | (go_at_call 63; refine (z1.out _).mono ?_; rintro e w2 ⟨rfl, b2⟩; have c2 := cell_later b2 c0; have c3 := cell_later b2 c1) | (go_at_call 71; refine (z2.out _).mono ?_; rintro e w3 ⟨rfl, b3⟩; have k3 : Below wr.heap.size wr w3 := b2.trans (b3.mono b2.size); have HR3 := hide_ (ownsRow_later HR.out k3); have HA3 := hide_ (HA.out.later k3); have HB3 := hide_ (HBB.out.trans (k3.mono HBB.out.size))) | (at_builtin; refine wpList_append_new (.tmp 18) (.tmp 20) 64 rfl 3 i0 (.int .i64 0) 1 8 Try.underlying64 HI.out.1 HI.out.2.1 HI.out.2.2.1 HI.out.2.2.2 rfl (by decide) (n + 1) (.slice ua m uc) m (i64s out) (by simp [Act.eval, Act.put]) w3 HR3.out [.int .i64 (t : Int)] _ rfl 1 (by simp) (by simp [Value.oneCell']) (by simp [Act.eval, Act.put]) (by simp [Region.wanted]) (by unfold maxLen; omega) (by omega) HA3.out.lt ?_; intro v4 w4 ho4 hb4; obtain ⟨va, vc, rfl⟩ := own_slice ho4; have HA4 := hide_ (HA3.out.below hb4 (Nat.lt_succ_self n)); have HB4 := hide_ (HB3.out.trans (hb4.mono (by omega))); obtain ⟨d0, d1, g0, g1⟩ := HA4.out.two; have HO4 := hide_ ho4; clear ho4 hb4))
      go_region_with (first | (go_at_call 72; refine (z3.out _).mono ?_; rintro e w5 ⟨rfl, b5⟩; have k5 : Below w4.heap.size w4 w5 := (Below.refl _ _).drew.trans b5; have e0 := cell_later k5 d0; have e1 := cell_later k5 d1) | (go_at_call 28; refine (z4.out _).mono ?_; rintro e w6 ⟨rfl, b6⟩; have k6 : Below w4.heap.size w4 w6 := k5.trans (b6.mono k5.size); have HA6 := hide_ (HA4.out.later k6); obtain ⟨h0, h1, h2, h3⟩ := HA6.out.two))
      all_goals
        go_wp2_with fail
        go_roundw
        case rel => exact ⟨va, m + 1, vc, p2, q2, out ++ [t], rfl, lt1, lt2, HR2, hide_ (by have := HM.out; simp; omega), hide_ ((HA6.out.set (j := 0) (.int .u64 (p2 : Int))).set (j := 1) (.int .u64 (q2 : Int))), hide_ (by rw [i64s_app]; exact own_far (own_far (ownsRow_later HO4.out k6) (Nat.lt_succ_self n) _) (Nat.lt_succ_self n) _), hide_ (((HB4.out.trans (k6.mono HB4.out.size)).setCell (p := ⟨n, 0, none⟩) hn _).setCell (p := ⟨n, 1, none⟩) hn _)⟩
        case measure => simp [slen]; omega
    · rw [hz] at z1
      have hF : out = L := by
        rw [← HO.out, fall_none (fun i _ => zero_hasb hz i)]; simp
      have HF2 := hide_ hF
      clear hF
      unfold wd at *
      go_wp2_with (first | (go_at_call 63; refine (z1.out _).mono ?_; rintro e w2 ⟨rfl, b2⟩))
      go_ret
      have e1 := HF2.out
      have e2 := HM.out
      subst e2
      subst e1
      exact ⟨_, rfl, Cells.ofOwn (ownsRow_later HR.out b2), HBB.out.trans (b2.mono HBB.out.size)⟩

set_option maxRecDepth 100000 in
set_option maxHeartbeats 2000000 in
theorem rtbits_any (a b c d a2 b2 c2 d2 : Nat) (w : World) (ha : a < 18446744073709551616) (hb : b < 18446744073709551616) (hc : c < 18446744073709551616) (hd : d < 18446744073709551616) (ha2 : a2 < 18446744073709551616) (hb2 : b2 < 18446744073709551616) (hc2 : c2 < 18446744073709551616) (hd2 : d2 < 18446744073709551616) :
    Calls Try.prog 59 #[td a b c d, td a2 b2 c2 d2] w fun e w' => ∃ u, e = .returned u ∧ Cells w' u 1 (fall (hasb (andn c2 c) (andn d2 d)) 128).length (i64s (fall (hasb (andn c2 c) (andn d2 d)) 128)) ∧ Below w.heap.size w w' := by
  have Y1 := hide_ (fun (j : Nat) (hj : j < 128) w => rhasb c2 d2 j w hc2 hd2 hj)
  have Y2 := hide_ (fun (j : Nat) (hj : j < 128) w => rhasb c d j w hc hd hj)
  rw [show fall (hasb (andn c2 c) (andn d2 d)) 128 = fall (fun i => hasb c2 d2 i && !hasb c d i) 128 from fall_congr (fun i hi => less_hasb c2 d2 c d i hc hd hi)]
  have HL0 := fall_len (fun i => hasb c2 d2 i && !hasb c d i) 128
  obtain ⟨P, hP⟩ : ∃ P : Nat → Bool, (fun i => hasb c2 d2 i && !hasb c d i) = P := ⟨_, rfl⟩
  have HPP : Hid (∀ i, P i = (hasb c2 d2 i && !hasb c d i)) := hide_ (fun i => by rw [← hP])
  rw [hP] at HL0 ⊢
  clear hP
  generalize hasb c2 d2 = p1 at *
  generalize hasb c d = p2 at *
  obtain ⟨L, HL⟩ : ∃ L, fall P 128 = L := ⟨_, rfl⟩
  rw [HL] at HL0 ⊢
  obtain ⟨i0, hi0, hz0, hz1, hz2⟩ := info_parts info3
  have HI : Hid (Try.prog.info? 3 = some i0 ∧ i0.zero = some (.int .i64 0) ∧ i0.size = 1 ∧ i0.bytes = 8) := ⟨hi0, hz0, hz1, hz2⟩
  clear hi0 hz0 hz1 hz2 ha hb hc hd ha2 hb2 hc2 hd2
  have HF := hide_ HL
  clear HL
  unfold td at *
  unfold wd at *
  have hA := hide_ (((AB.at0 w 26 [.int .u64 (a : Int), .int .u64 (b : Int), .int .u64 (c : Int), .int .u64 (d : Int)]).alloc (.cells #[.int .u64 (a2 : Int), .int .u64 (b2 : Int), .int .u64 (c2 : Int), .int .u64 (d2 : Int)] 26)).alloc (.cells #[] 3))
  have hC := hide_ ((AB.at1 w (.cells #[.int .u64 (a : Int), .int .u64 (b : Int), .int .u64 (c : Int), .int .u64 (d : Int)] 26) 26 [.int .u64 (a2 : Int), .int .u64 (b2 : Int), .int .u64 (c2 : Int), .int .u64 (d2 : Int)]).alloc (.cells #[] 3))
  have hB := hide_ (below3 w (.cells #[.int .u64 (a : Int), .int .u64 (b : Int), .int .u64 (c : Int), .int .u64 (d : Int)] 26) (.cells #[.int .u64 (a2 : Int), .int .u64 (b2 : Int), .int .u64 (c2 : Int), .int .u64 (d2 : Int)] 26) (.cells #[] 3))
  have hO : Hid (World.ownsRow (((w.alloc (.cells #[.int .u64 (a : Int), .int .u64 (b : Int), .int .u64 (c : Int), .int .u64 (d : Int)] 26)).alloc (.cells #[.int .u64 (a2 : Int), .int .u64 (b2 : Int), .int .u64 (c2 : Int), .int .u64 (d2 : Int)] 26)).alloc (.cells #[] 3)) (w.heap.size + 1 + 1) 3 1 (.slice (some ⟨w.heap.size + 1 + 1, 0, none⟩) 0 0) 0 []) := hide_ (by have := World.ownsRow_made (base := w.heap.size + 1 + 1) (e := 3) (size := 1) ((w.alloc (.cells #[.int .u64 (a : Int), .int .u64 (b : Int), .int .u64 (c : Int), .int .u64 (d : Int)] 26)).alloc (.cells #[.int .u64 (a2 : Int), .int .u64 (b2 : Int), .int .u64 (c2 : Int), .int .u64 (d2 : Int)] 26)) #[] 0 (by simp) (Nat.zero_le _) rfl; simpa using this)
  go_enter Try.func59, Try.ntmps59
  go_wp2_with fail
  generalize (((w.alloc (.cells #[.int .u64 (a : Int), .int .u64 (b : Int), .int .u64 (c : Int), .int .u64 (d : Int)] 26)).alloc (.cells #[.int .u64 (a2 : Int), .int .u64 (b2 : Int), .int .u64 (c2 : Int), .int .u64 (d2 : Int)] 26)).alloc (.cells #[] 3)) = W at *
  go_loopw [5, 6] (fun u i wr => ∃ (k m : Nat) (ua : Option Addr) (uc : Nat) (out : List Nat), k ≤ 128 ∧ i = .int .i64 ((k : Int) - 1) ∧ u = .slice ua m uc ∧ Hid (out ++ fall P k = L) ∧ Hid (m = out.length) ∧ Hid (AB wr w.heap.size 26 [.int .u64 (a : Int), .int .u64 (b : Int), .int .u64 (c : Int), .int .u64 (d : Int)]) ∧ Hid (AB wr (w.heap.size + 1) 26 [.int .u64 (a2 : Int), .int .u64 (b2 : Int), .int .u64 (c2 : Int), .int .u64 (d2 : Int)]) ∧ Hid (wr.ownsRow (w.heap.size + 1 + 1) 3 1 (.slice ua m uc) m (i64s out)) ∧ Below w.heap.size w wr) (fun _ i _ => (intOf i + 1).toNat)
  case atStart => exact ⟨128, 0, _, _, [], Nat.le_refl _, rfl, rfl, hide_ (by simpa using HF.out), hide_ rfl, hA, hC, by simpa [i64s] using hO, hB.out⟩
  case round =>
    obtain ⟨k, m, ua, uc, out, hk, hi, rfl, HF1, HM, HA, HC, HO, hb⟩ := hrel
    cases k with
    | zero =>
      have e : ((0 : Nat) : Int) - 1 = -1 := by omega
      rw [e] at hi
      subst hi
      go_wp2_with fail
      go_ret
      have e1 : out = L := by have := HF1.out; simpa [fall] using this
      have e2 := HM.out
      subst e2
      subst e1
      exact ⟨_, rfl, Cells.ofOwn HO.out, hb⟩
    | succ j =>
      have e : ((j + 1 : Nat) : Int) - 1 = (j : Int) := by omega
      rw [e] at hi
      subst hi
      have g1 : (0 : Int) ≤ (j : Int) := by omega
      have y1 := hide_ (Y1.out j (by omega))
      have y2 := hide_ (Y2.out j (by omega))
      have HP := hide_ (HPP.out j)
      obtain ⟨-, -, o2, o3, -⟩ := HC.out.four
      obtain ⟨-, -, i2, i3, -⟩ := HA.out.four
      have hml : m + (fall P (j + 1)).length = L.length := by rw [← HF1.out, HM.out]; simp
      cases h1 : p1 j
      · rw [h1] at y1 HP
        go_wp2_with (first | (go_at_call_of 60 (Value.int IntKind.u64 (c2 : Int)); refine (y1.out _).mono ?_; rintro e wy1 ⟨rfl, by1⟩; obtain ⟨-, -, m2, m3, -⟩ := (HA.out.later by1).four))
        go_roundw
        case rel => exact ⟨j, m, ua, uc, out, by omega, by go_num, rfl, hide_ (by rw [← HF1.out, fall, HP.out]; simp), HM, hide_ (HA.out.later by1), hide_ (HC.out.later by1), hide_ (ownsRow_later HO.out by1), hb.trans (by1.mono hb.size)⟩
        case measure => simp [intOf]
      · rw [h1] at y1 HP
        cases h2 : p2 j
        · rw [h2] at y2 HP
          have hml2 : m + 1 ≤ L.length := by rw [← hml, fall, HP.out]; simp
          go_wp2_with (first | (go_at_call_of 60 (Value.int IntKind.u64 (c2 : Int)); refine (y1.out _).mono ?_; rintro e wy1 ⟨rfl, by1⟩; obtain ⟨-, -, m2, m3, -⟩ := (HA.out.later by1).four) | (go_at_call_of 60 (Value.int IntKind.u64 (c : Int)); refine (y2.out _).mono ?_; rintro e wy2 ⟨rfl, by2⟩) | (at_builtin; refine wpList_append_new (.tmp 23) (.tmp 25) 64 rfl 3 i0 (.int .i64 0) 1 8 Try.underlying64 HI.out.1 HI.out.2.1 HI.out.2.2.1 HI.out.2.2.2 rfl (by decide) (w.heap.size + 1 + 1) (.slice ua m uc) m (i64s out) (by simp [Act.eval, Act.put]) wy2 (ownsRow_later HO.out (by1.trans (by2.mono by1.size))) [.int .i64 (j : Int)] _ rfl 1 (by simp) (by simp [Value.oneCell']) (by simp [Act.eval, Act.put]) (by simp [Region.wanted]) (by unfold maxLen; omega) (by omega) (Nat.lt_of_lt_of_le HC.out.lt (Nat.le_trans by1.size by2.size)) ?_; intro v4 w4 ho4 hb4; obtain ⟨va, vc, rfl⟩ := own_slice ho4; have HO4 := hide_ ho4; have K4 : Hid (Below (w.heap.size + 1 + 1) wr w4) := hide_ (((by1.trans (by2.mono by1.size)).mono HC.out.lt).trans hb4); clear ho4 hb4))
          go_roundw
          case rel => exact ⟨j, m + 1, va, vc, out ++ [j], by omega, by go_num, rfl, hide_ (by rw [← HF1.out, fall, HP.out]; simp), hide_ (by have := HM.out; simp; omega), hide_ (HA.out.below K4.out (by omega)), hide_ (HC.out.below K4.out (by omega)), hide_ (by rw [i64s_app]; exact HO4.out), hb.trans (K4.out.mono (by omega))⟩
          case measure => simp [intOf]
        · rw [h2] at y2 HP
          go_wp2_with (first | (go_at_call_of 60 (Value.int IntKind.u64 (c2 : Int)); refine (y1.out _).mono ?_; rintro e wy1 ⟨rfl, by1⟩; obtain ⟨-, -, m2, m3, -⟩ := (HA.out.later by1).four) | (go_at_call_of 60 (Value.int IntKind.u64 (c : Int)); refine (y2.out _).mono ?_; rintro e wy2 ⟨rfl, by2⟩))
          go_roundw
          case rel => exact ⟨j, m, ua, uc, out, by omega, by go_num, rfl, hide_ (by rw [← HF1.out, fall, HP.out]; simp), HM, hide_ (HA.out.later (by1.trans (by2.mono by1.size))), hide_ (HC.out.later (by1.trans (by2.mono by1.size))), hide_ (ownsRow_later HO.out (by1.trans (by2.mono by1.size))), hb.trans ((by1.trans (by2.mono by1.size)).mono hb.size)⟩
          case measure => simp [intOf]

end Go.Proofs.Ytickphnfgaibiaa
