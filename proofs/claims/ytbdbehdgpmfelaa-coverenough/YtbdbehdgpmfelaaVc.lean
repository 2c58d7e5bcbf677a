import Derived.Test.YtbdbehdgpmfelaaXg
import Derived.Test.YtbdbehdgpmfelaaXh
import Derived.Test.YtbdbehdgpmfelaaVa
import Derived.Test.YtbdbehdgpmfelaaVb
import Derived.Test.YtbdbehdgpmfelaaQd
import Derived.Test.YtbdbehdgpmfelaaXf
import Derived.Deep.RegionHeld3
import Derived.Deep.Cut
import Derived.OwnWalkIn
import Derived.TacticsInMore
import Derived.LoopNIn
import Derived.LoopIn
import Derived.Shelf.Abstract
import Derived.Shelf.RegionOpen
namespace Go.Proofs.Ytbdbehdgpmfelaa
open Go Go.RowKit
set_option linter.unusedVariables false
set_option linter.unusedSimpArgs false

theorem ownsRow_mono {w : World} {base base' : Nat} {e : TypeId} {size : Nat} {v : Value} {n : Nat} {xs : List Value} (h : w.ownsRow base e size v n xs) (hb : base' ≤ base) : w.ownsRow base' e size v n xs := by
  refine ⟨h.1, ?_⟩
  rcases h.2 with h | ⟨g, cap, cur, rfl, hg, r⟩
  · exact .inl h
  · exact .inr ⟨g, cap, cur, rfl, Nat.le_trans hb hg, r⟩

set_option maxRecDepth 100000 in
set_option maxHeartbeats 2000000 in
theorem tbits_own (a b c d a2 b2 c2 d2 : Nat) (w : World) (ha : a < 18446744073709551616) (hb : b < 18446744073709551616) (hc : c < 18446744073709551616) (hd : d < 18446744073709551616) (ha2 : a2 < 18446744073709551616) (hb2 : b2 < 18446744073709551616) (hc2 : c2 < 18446744073709551616) (hd2 : d2 < 18446744073709551616) :
    Calls Try.prog 51 #[td a b c d, td a2 b2 c2 d2] w fun e w' => ∃ u, e = .returned u ∧ w'.ownsRow w.heap.size 3 1 u (fall (hasb (andn c2 c) (andn d2 d)) 128).length (i64s (fall (hasb (andn c2 c) (andn d2 d)) 128)) ∧ Below w.heap.size w w' := by
  have q1 := hide_ (fun w => less_any c2 d2 c d w hc2 hd2 hc hd)
  have hx := tandn_lt c2 c hc2
  have hy := tandn_lt d2 d hd2
  have HL0 := fall_len (hasb (andn c2 c) (andn d2 d)) 128
  generalize andn c2 c = x at *
  generalize andn d2 d = y at *
  clear ha hb hc hd ha2 hb2 hc2 hd2
  obtain ⟨L, HL⟩ : ∃ L, fall (hasb x y) 128 = L := ⟨_, rfl⟩
  rw [HL] at HL0 ⊢
  obtain ⟨i0, hi0, hz0, hz1, hz2⟩ := info_parts info3
  have HI : Hid (Try.prog.info? 3 = some i0 ∧ i0.zero = some (.int .i64 0) ∧ i0.size = 1 ∧ i0.bytes = 8) := ⟨hi0, hz0, hz1, hz2⟩
  clear hi0 hz0 hz1 hz2
  have HF := hide_ HL
  clear HL
  unfold td at *
  unfold wd at q1
  have HB := hide_ (below2 w (.cells #[.int .u64 (a : Int), .int .u64 (b : Int), .int .u64 (c : Int), .int .u64 (d : Int)] 26) (.cells #[.int .u64 (a2 : Int), .int .u64 (b2 : Int), .int .u64 (c2 : Int), .int .u64 (d2 : Int)] 26))
  go_enter Try.func51, Try.ntmps51
  go_wp2_with (go_at_call 69; refine (q1.out _).mono ?_; rintro e w1 ⟨rfl, b1⟩)
  have bb : Below w.heap.size w w1 := HB.out.trans (b1.mono HB.out.size)
  have hn : w.heap.size ≤ w1.heap.size := bb.size
  have K := AB.at0 w1 24 [.int .u64 (x : Int), .int .u64 (y : Int)]
  have BB := bb.alloc bb.size (.cells #[.int .u64 (x : Int), .int .u64 (y : Int)] 24)
  have hW : w1.heap.size + 1 ≤ (w1.alloc (.cells #[.int .u64 (x : Int), .int .u64 (y : Int)] 24)).heap.size := by simp
  clear b1 HB bb
  have HK := hide_ K
  have HB := hide_ BB
  have HW := hide_ hW
  clear K BB hW
  generalize w1.alloc (.cells #[.int .u64 (x : Int), .int .u64 (y : Int)] 24) = W at *
  generalize w1.heap.size = n at *
  go_loopw [5, 7] (fun u i wr => ∃ (ua : Option Addr) (m uc : Nat) (p q : Nat) (out : List Nat), u = .slice ua m uc ∧ p < 18446744073709551616 ∧ q < 18446744073709551616 ∧ Hid (out ++ fall (hasb p q) 128 = L) ∧ Hid (m = out.length) ∧ Hid (AB wr n 24 [.int .u64 (p : Int), .int .u64 (q : Int)]) ∧ Hid (wr.ownsRow (n + 1) 3 1 (.slice ua m uc) m (i64s out)) ∧ Hid (Below w.heap.size w wr)) (fun u _ _ => L.length - slen u)
  case atStart => exact ⟨none, 0, 0, x, y, [], rfl, hx, hy, hide_ (by simpa using HF.out), hide_ rfl, HK, hide_ (World.ownsRow_nil _ _ _ _), HB⟩
  case round =>
    obtain ⟨ua, m, uc, p, q, out, rfl, hp, hq, HO, HM, HA, HR, HBB⟩ := hrel
    have z1 := hide_ (fun w => zero_any p q w)
    obtain ⟨c0, c1, f0, f1⟩ := HA.out.two
    cases hz : (p == 0 && q == 0)
    · rw [hz] at z1
      have hm1 := HM.out
      have hr := fall_round p q hp hq hz
      have z2 := hide_ (fun w => highest_any p q w hp hq hz)
      obtain ⟨ht, -, -⟩ := top_spec p q hp hq hz
      have z3 := hide_ (fun w => bit_nat (top p q) w ht)
      have z4 := hide_ (fun w => less_any p q (bh (top p q)) (bl (top p q)) w hp hq (bh_lt _ ht) (bl_lt _))
      have lt1 := tandn_lt p (bh (top p q)) hp
      have lt2 := tandn_lt q (bl (top p q)) hq
      have HR2 : Hid ((out ++ [top p q]) ++ fall (hasb (andn p (bh (top p q))) (andn q (bl (top p q)))) 128 = L) := hide_ (by rw [← HO.out, hr]; simp)
      have hlen : m + 1 ≤ L.length := by rw [← HR2.out, hm1]; simp
      clear hr hm1 HO
      generalize andn p (bh (top p q)) = p2 at *
      generalize andn q (bl (top p q)) = q2 at *
      generalize bh (top p q) = s1 at *
      generalize bl (top p q) = s2 at *
      generalize top p q = t at *
      clear hz
      unfold wd at *
      go_wp2_with (first | (go_at_call 44; refine (z1.out _).mono ?_; rintro e w2 ⟨rfl, b2⟩; have c2 := cell_later b2 c0; have c3 := cell_later b2 c1) | (go_at_call 70; refine (z2.out _).mono ?_; rintro e w3 ⟨rfl, b3⟩; have k3 : Below wr.heap.size wr w3 := b2.trans (b3.mono b2.size); have HR3 := hide_ (ownsRow_later HR.out k3); have HA3 := hide_ (HA.out.later k3); have HB3 := hide_ (HBB.out.trans (k3.mono HBB.out.size))) | (at_builtin; refine wpList_append_new (.tmp 18) (.tmp 20) 81 rfl 3 i0 (.int .i64 0) 1 8 Try.underlying81 HI.out.1 HI.out.2.1 HI.out.2.2.1 HI.out.2.2.2 rfl (by decide) (n + 1) (.slice ua m uc) m (i64s out) (by simp [Act.eval, Act.put]) w3 HR3.out [.int .i64 (t : Int)] _ rfl 1 (by simp) (by simp [Value.oneCell']) (by simp [Act.eval, Act.put]) (by simp [Region.wanted]) (by unfold maxLen; omega) (by omega) HA3.out.lt ?_; intro v4 w4 ho4 hb4; obtain ⟨va, vc, rfl⟩ := own_slice ho4; have HA4 := hide_ (HA3.out.below hb4 (Nat.lt_succ_self n)); have HB4 := hide_ (HB3.out.trans (hb4.mono (by omega))); obtain ⟨d0, d1, g0, g1⟩ := HA4.out.two; have HO4 := hide_ ho4; clear ho4 hb4))
      go_region_with (first | (go_at_call 71; refine (z3.out _).mono ?_; rintro e w5 ⟨rfl, b5⟩; have k5 : Below w4.heap.size w4 w5 := (Below.refl _ _).drew.trans b5; have e0 := cell_later k5 d0; have e1 := cell_later k5 d1) | (go_at_call 69; refine (z4.out _).mono ?_; rintro e w6 ⟨rfl, b6⟩; have k6 : Below w4.heap.size w4 w6 := k5.trans (b6.mono k5.size); have HA6 := hide_ (HA4.out.later k6); obtain ⟨h0, h1, h2, h3⟩ := HA6.out.two))
      all_goals
        go_wp2_with fail
        go_roundw
        case rel => exact ⟨va, m + 1, vc, p2, q2, out ++ [t], rfl, lt1, lt2, HR2, hide_ (by have := HM.out; simp; omega), hide_ ((HA6.out.set (j := 0) (.int .u64 (p2 : Int))).set (j := 1) (.int .u64 (q2 : Int))), hide_ (by rw [i64s_app]; exact own_far (own_far (ownsRow_later HO4.out k6) (Nat.lt_succ_self n) _) (Nat.lt_succ_self n) _), hide_ (((HB4.out.trans (k6.mono HB4.out.size)).setCell (p := ⟨n, 0, none⟩) hn _).setCell (p := ⟨n, 1, none⟩) hn _)⟩
        case measure => simp [slen]; omega
    · rw [hz] at z1
      have hF : out = L := by
        rw [← HO.out, fall_none (fun i _ => zero_hasb hz i)]; simp
      have HF2 := hide_ hF
      clear hF
      unfold wd at *
      go_wp2_with (first | (go_at_call 44; refine (z1.out _).mono ?_; rintro e w2 ⟨rfl, b2⟩))
      go_ret
      have e1 := HF2.out
      have e2 := HM.out
      subst e2
      subst e1
      exact ⟨_, rfl, ownsRow_mono (ownsRow_later HR.out b2) (by omega), HBB.out.trans (b2.mono HBB.out.size)⟩

theorem lit_has (a b j : Nat) (hj : j < 128) (ha : a < 18446744073709551616) (hb : b < 18446744073709551616) : thz (fixv (0 &&& 0) (bh j) true) (fixv (0 &&& 0) (bl j) true) (0 ||| bh j) (0 ||| bl j) a b = hasb a b j := by
  rw [fix_on 0 0 0 0 a b j hj (by decide) (by decide) (by decide) (by decide) ha hb]
  have : frest 0 0 0 0 a b j = true := by simp [frest, andn]
  rw [this, Bool.and_true]
theorem keepA2 {p0 p1 : Addr} {x0 x1 : Value} {w0 wa wb : World} (k : Below wa.heap.size wa wb) (h : wa.cell? p0 = some x0 ∧ wa.cell? p1 = some x1 ∧ Below w0.heap.size w0 wa) : wb.cell? p0 = some x0 ∧ wb.cell? p1 = some x1 ∧ Below w0.heap.size w0 wb :=
  ⟨cell_later k h.1, cell_later k h.2.1, h.2.2.trans (k.mono h.2.2.size)⟩

set_option maxRecDepth 100000 in
set_option maxHeartbeats 1000000 in
theorem lit_any (a b c d j : Nat) (w : World) (hj : j < 128) (ha : a < 18446744073709551616) (hb : b < 18446744073709551616) :
    Calls Try.prog 52 #[td a b c d, .int .i64 (j : Int)] w fun e w' => e = .returned (.bool (hasb a b j)) ∧ Below w.heap.size w w' := by
  have q1 := hide_ (fun w => tfix_nat 0 0 0 0 j true w hj (by decide) (by decide) (by decide) (by decide))
  have q2 := fun w => thas_z (fixv (0 &&& 0) (bh j) true) (fixv (0 &&& 0) (bl j) true) (0 ||| bh j) (0 ||| bl j) a b w (fixv_lt _ _ _ (by decide) (bh_lt j hj)) (fixv_lt _ _ _ (by decide) (bl_lt j)) (or_lt _ _ (by decide) (bh_lt j hj)) (or_lt _ _ (by decide) (bl_lt j)) ha hb
  rw [lit_has a b j hj ha hb] at q2
  have q2 := hide_ q2
  obtain ⟨o0, o1, -⟩ := (AB.at0 w 26 [.int .u64 (a : Int), .int .u64 (b : Int), .int .u64 (c : Int), .int .u64 (d : Int)]).four
  have B0 := below1 w (.cells #[.int .u64 (a : Int), .int .u64 (b : Int), .int .u64 (c : Int), .int .u64 (d : Int)] 26)
  generalize fixv (0 &&& 0) (bh j) true = m1 at *
  generalize fixv (0 &&& 0) (bl j) true = m2 at *
  generalize 0 ||| bh j = m3 at *
  generalize 0 ||| bl j = m4 at *
  generalize hasb a b j = z at *
  clear ha hb
  unfold td at *
  unfold wd at *
  simp only [show ((0 : Nat) : Int) = 0 from rfl] at q1
  go_enter Try.func52, Try.ntmps52
  go_wp2_with fail
  generalize w.alloc (.cells #[.int .u64 (a : Int), .int .u64 (b : Int), .int .u64 (c : Int), .int .u64 (d : Int)] 26) = W at *
  go_region_held3 (fun w' => w'.cell? ⟨w.heap.size, 0, none⟩ = some (.int .u64 (a : Int)) ∧ w'.cell? ⟨w.heap.size, 1, none⟩ = some (.int .u64 (b : Int)) ∧ Below w.heap.size w w')
    (first | (with_reducible exact keepA2 (by assumption) (by assumption)) | (exact ⟨o0, o1, B0.drew⟩) | (exact ⟨o0, o1, B0⟩))
    (first | (go_at_call 53; refine (q1.out _).mono ?_; rintro e w4 ⟨rfl, b4⟩) | (go_at_call 29; refine (q2.out _).mono ?_; rintro e w4 ⟨rfl, b4⟩))
  rename_i hH
  have bel := hH.2.2
  clear hH
  go_wp2_with fail
  go_ret
  exact ⟨rfl, bel⟩

end Go.Proofs.Ytbdbehdgpmfelaa
