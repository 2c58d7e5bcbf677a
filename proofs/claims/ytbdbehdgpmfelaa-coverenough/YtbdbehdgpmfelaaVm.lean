import Derived.Test.YtbdbehdgpmfelaaQj
import Derived.Test.YtbdbehdgpmfelaaVk
import Derived.Test.YtbdbehdgpmfelaaQk
namespace Go.Proofs.Ytbdbehdgpmfelaa
open Go Go.RowKit
set_option linter.unusedVariables false
set_option linter.unusedSimpArgs false

theorem own_ne2 {w : World} {b1 b2 s1 s2 n1 n2 : Nat} {e1 e2 : TypeId} {v1 v2 : Value} {x1 x2 : List Value} (h1 : w.ownsRow b1 e1 s1 v1 n1 x1) (h2 : w.ownsRow b2 e2 s2 v2 n2 x2) (hne : e1 ≠ e2) (g : Nat) (k1 : v1.ownBlock = some g) (k2 : v2.ownBlock = some g) : False := by
  rcases h1.2 with ⟨rfl, -⟩ | ⟨g1, cap, cur, rfl, -, hg, -⟩
  · cases k1
  · rcases h2.2 with ⟨rfl, -⟩ | ⟨g2, cap2, cur2, rfl, -, hg2, -⟩
    · cases k2
    · have e1 : g1 = g := by simpa [Value.ownBlock] using k1
      have e2 : g2 = g := by simpa [Value.ownBlock] using k2
      subst e1
      subst e2
      rw [hg] at hg2
      simp at hg2
      exact hne hg2.2
theorem own_grown {w w' : World} {base : Nat} {e : TypeId} {size : Nat} {v : Value} {n : Nat} {xs : List Value} {row : Option Nat} (h : w.ownsRow base e size v n xs) (hg : w.grownBy w' row) (hne : ∀ g, v.ownBlock = some g → row ≠ some g) : w'.ownsRow base e size v n xs := by
  refine ⟨h.1, ?_⟩
  rcases h.2 with k | ⟨g, cap, cur, rfl, hb, hk, r⟩
  · exact .inl k
  · exact .inr ⟨g, cap, cur, rfl, hb, (hg.block g (Array.getElem?_eq_some_iff.1 hk).1 (fun e => hne g rfl e.symm)).trans hk, r⟩
theorem AB.grown {w w' : World} {n : Nat} {ty : TypeId} {cs : List Value} {row : Option Nat} (h : AB w n ty cs) (hg : w.grownBy w' row) (hne : row ≠ some n) : AB w' n ty cs := (hg.block n h.lt (fun e => hne e.symm)).trans h
theorem keepA3 {p0 p1 p2 : Addr} {x0 x1 x2 : Value} {w0 wa wb : World} (k : Below wa.heap.size wa wb) (h : wa.cell? p0 = some x0 ∧ wa.cell? p1 = some x1 ∧ wa.cell? p2 = some x2 ∧ Below w0.heap.size w0 wa) : wb.cell? p0 = some x0 ∧ wb.cell? p1 = some x1 ∧ wb.cell? p2 = some x2 ∧ Below w0.heap.size w0 wb :=
  ⟨cell_later k h.1, cell_later k h.2.1, cell_later k h.2.2.1, h.2.2.2.trans (k.mono h.2.2.2.size)⟩
theorem keepA5 {p0 p1 p2 p3 p4 : Addr} {x0 x1 x2 x3 x4 : Value} {w0 wa wb : World} (k : Below wa.heap.size wa wb) (h : wa.cell? p0 = some x0 ∧ wa.cell? p1 = some x1 ∧ wa.cell? p2 = some x2 ∧ wa.cell? p3 = some x3 ∧ wa.cell? p4 = some x4 ∧ Below w0.heap.size w0 wa) : wb.cell? p0 = some x0 ∧ wb.cell? p1 = some x1 ∧ wb.cell? p2 = some x2 ∧ wb.cell? p3 = some x3 ∧ wb.cell? p4 = some x4 ∧ Below w0.heap.size w0 wb :=
  ⟨cell_later k h.1, cell_later k h.2.1, cell_later k h.2.2.1, cell_later k h.2.2.2.1, cell_later k h.2.2.2.2.1, h.2.2.2.2.2.trans (k.mono h.2.2.2.2.2.size)⟩
theorem cell_fillq {w : World} {g i0 i1 i2 i3 : Nat} {p : Addr} (hp : g ≠ p.block) (x y z u : Value) : ((((w.setCell ⟨g, i0, none⟩ x).setCell ⟨g, i1, none⟩ y).setCell ⟨g, i2, none⟩ z).setCell ⟨g, i3, none⟩ u).cell? p = w.cell? p := by
  rw [World.cell?_of_block (w := _) (Below.heap_setCell _ _ _ _ (fun e => hp e.symm)), World.cell?_of_block (w := _) (Below.heap_setCell _ _ _ _ (fun e => hp e.symm)), World.cell?_of_block (w := _) (Below.heap_setCell _ _ _ _ (fun e => hp e.symm)), World.cell?_of_block (w := _) (Below.heap_setCell _ _ _ _ (fun e => hp e.symm))]
theorem keepA5s {p0 p1 p2 p3 p4 : Addr} {x0 x1 x2 x3 x4 y0 y1 y2 y3 : Value} {w0 wa : World} {g i0 i1 i2 i3 : Nat} (h : wa.cell? p0 = some x0 ∧ wa.cell? p1 = some x1 ∧ wa.cell? p2 = some x2 ∧ wa.cell? p3 = some x3 ∧ wa.cell? p4 = some x4 ∧ Below w0.heap.size w0 wa) (hg : w0.heap.size ≤ g) (n0 : g ≠ p0.block) (n1 : g ≠ p1.block) (n2 : g ≠ p2.block) (n3 : g ≠ p3.block) (n4 : g ≠ p4.block) :
    ((((wa.setCell ⟨g, i0, none⟩ y0).setCell ⟨g, i1, none⟩ y1).setCell ⟨g, i2, none⟩ y2).setCell ⟨g, i3, none⟩ y3).cell? p0 = some x0 ∧ ((((wa.setCell ⟨g, i0, none⟩ y0).setCell ⟨g, i1, none⟩ y1).setCell ⟨g, i2, none⟩ y2).setCell ⟨g, i3, none⟩ y3).cell? p1 = some x1 ∧ ((((wa.setCell ⟨g, i0, none⟩ y0).setCell ⟨g, i1, none⟩ y1).setCell ⟨g, i2, none⟩ y2).setCell ⟨g, i3, none⟩ y3).cell? p2 = some x2 ∧ ((((wa.setCell ⟨g, i0, none⟩ y0).setCell ⟨g, i1, none⟩ y1).setCell ⟨g, i2, none⟩ y2).setCell ⟨g, i3, none⟩ y3).cell? p3 = some x3 ∧ ((((wa.setCell ⟨g, i0, none⟩ y0).setCell ⟨g, i1, none⟩ y1).setCell ⟨g, i2, none⟩ y2).setCell ⟨g, i3, none⟩ y3).cell? p4 = some x4 ∧ Below w0.heap.size w0 ((((wa.setCell ⟨g, i0, none⟩ y0).setCell ⟨g, i1, none⟩ y1).setCell ⟨g, i2, none⟩ y2).setCell ⟨g, i3, none⟩ y3) :=
  ⟨(cell_fillq n0 _ _ _ _).trans h.1, (cell_fillq n1 _ _ _ _).trans h.2.1, (cell_fillq n2 _ _ _ _).trans h.2.2.1, (cell_fillq n3 _ _ _ _).trans h.2.2.2.1, (cell_fillq n4 _ _ _ _).trans h.2.2.2.2.1, below_fillq h.2.2.2.2.2 hg _ _ _ _ _ _ _ _⟩
set_option maxRecDepth 100000 in
set_option maxHeartbeats 2000000 in
theorem rtbits_own (a b c d a2 b2 c2 d2 : Nat) (w : World) (ha : a < 18446744073709551616) (hb : b < 18446744073709551616) (hc : c < 18446744073709551616) (hd : d < 18446744073709551616) (ha2 : a2 < 18446744073709551616) (hb2 : b2 < 18446744073709551616) (hc2 : c2 < 18446744073709551616) (hd2 : d2 < 18446744073709551616) :
    Calls Try.prog 57 #[td a b c d, td a2 b2 c2 d2] w fun e w' => ∃ u, e = .returned u ∧ w'.ownsRow w.heap.size 3 1 u (fall (hasb (andn c2 c) (andn d2 d)) 128).length (i64s (fall (hasb (andn c2 c) (andn d2 d)) 128)) ∧ Below w.heap.size w w' := by
  have Y1 := hide_ (fun (j : Nat) (hj : j < 128) w => rhasb c2 d2 j w hc2 hd2 hj)
  have Y2 := hide_ (fun (j : Nat) (hj : j < 128) w => rhasb c d j w hc hd hj)
  rw [show fall (hasb (andn c2 c) (andn d2 d)) 128 = fall (fun i => hasb c2 d2 i && !hasb c d i) 128 from fall_congr (fun i hi => less_hasb c2 d2 c d i hc hd hi)]
  have HL0 := fall_len (fun i => hasb c2 d2 i && !hasb c d i) 128
  obtain ⟨P, hP⟩ : ∃ P : Nat → Bool, (fun i => hasb c2 d2 i && !hasb c d i) = P := ⟨_, rfl⟩
  have HPP : Hid (∀ i, P i = (hasb c2 d2 i && !hasb c d i)) := hide_ (fun i => by rw [← hP])
  rw [hP] at HL0 ⊢
  clear hP
  generalize hasb c2 d2 = p1 at *
  generalize hasb c d = p2 at *
  obtain ⟨L, HL⟩ : ∃ L, fall P 128 = L := ⟨_, rfl⟩
  rw [HL] at HL0 ⊢
  obtain ⟨i0, hi0, hz0, hz1, hz2⟩ := info_parts info3
  have HI : Hid (Try.prog.info? 3 = some i0 ∧ i0.zero = some (.int .i64 0) ∧ i0.size = 1 ∧ i0.bytes = 8) := ⟨hi0, hz0, hz1, hz2⟩
  clear hi0 hz0 hz1 hz2 ha hb hc hd ha2 hb2 hc2 hd2
  have HF := hide_ HL
  clear HL
  unfold td at *
  unfold wd at *
  have hA := hide_ (((AB.at0 w 26 [.int .u64 (a : Int), .int .u64 (b : Int), .int .u64 (c : Int), .int .u64 (d : Int)]).alloc (.cells #[.int .u64 (a2 : Int), .int .u64 (b2 : Int), .int .u64 (c2 : Int), .int .u64 (d2 : Int)] 26)).alloc (.cells #[] 3))
  have hC := hide_ ((AB.at1 w (.cells #[.int .u64 (a : Int), .int .u64 (b : Int), .int .u64 (c : Int), .int .u64 (d : Int)] 26) 26 [.int .u64 (a2 : Int), .int .u64 (b2 : Int), .int .u64 (c2 : Int), .int .u64 (d2 : Int)]).alloc (.cells #[] 3))
  have hB := hide_ (below3 w (.cells #[.int .u64 (a : Int), .int .u64 (b : Int), .int .u64 (c : Int), .int .u64 (d : Int)] 26) (.cells #[.int .u64 (a2 : Int), .int .u64 (b2 : Int), .int .u64 (c2 : Int), .int .u64 (d2 : Int)] 26) (.cells #[] 3))
  have hO : Hid (World.ownsRow (((w.alloc (.cells #[.int .u64 (a : Int), .int .u64 (b : Int), .int .u64 (c : Int), .int .u64 (d : Int)] 26)).alloc (.cells #[.int .u64 (a2 : Int), .int .u64 (b2 : Int), .int .u64 (c2 : Int), .int .u64 (d2 : Int)] 26)).alloc (.cells #[] 3)) (w.heap.size + 1 + 1) 3 1 (.slice (some ⟨w.heap.size + 1 + 1, 0, none⟩) 0 0) 0 []) := hide_ (by have := World.ownsRow_made (base := w.heap.size + 1 + 1) (e := 3) (size := 1) ((w.alloc (.cells #[.int .u64 (a : Int), .int .u64 (b : Int), .int .u64 (c : Int), .int .u64 (d : Int)] 26)).alloc (.cells #[.int .u64 (a2 : Int), .int .u64 (b2 : Int), .int .u64 (c2 : Int), .int .u64 (d2 : Int)] 26)) #[] 0 (by simp) (Nat.zero_le _) rfl; simpa using this)
  obtain ⟨hz0, -⟩ := zero_of_info zC'
  go_enter Try.func57, Try.ntmps57
  go_wp2_with fail
  generalize (((w.alloc (.cells #[.int .u64 (a : Int), .int .u64 (b : Int), .int .u64 (c : Int), .int .u64 (d : Int)] 26)).alloc (.cells #[.int .u64 (a2 : Int), .int .u64 (b2 : Int), .int .u64 (c2 : Int), .int .u64 (d2 : Int)] 26)).alloc (.cells #[] 3)) = W at *
  go_loopw [5, 6] (fun u i wr => ∃ (k m : Nat) (ua : Option Addr) (uc : Nat) (out : List Nat), k ≤ 128 ∧ i = .int .i64 ((k : Int) - 1) ∧ u = .slice ua m uc ∧ Hid (out ++ fall P k = L) ∧ Hid (m = out.length) ∧ Hid (AB wr w.heap.size 26 [.int .u64 (a : Int), .int .u64 (b : Int), .int .u64 (c : Int), .int .u64 (d : Int)]) ∧ Hid (AB wr (w.heap.size + 1) 26 [.int .u64 (a2 : Int), .int .u64 (b2 : Int), .int .u64 (c2 : Int), .int .u64 (d2 : Int)]) ∧ Hid (wr.ownsRow (w.heap.size + 1 + 1) 3 1 (.slice ua m uc) m (i64s out)) ∧ Below w.heap.size w wr) (fun _ i _ => (intOf i + 1).toNat)
  case atStart => exact ⟨128, 0, _, _, [], Nat.le_refl _, rfl, rfl, hide_ (by simpa using HF.out), hide_ rfl, hA, hC, by simpa [i64s] using hO, hB.out⟩
  case round =>
    obtain ⟨k, m, ua, uc, out, hk, hi, rfl, HF1, HM, HA, HC, HO, hb⟩ := hrel
    cases k with
    | zero =>
      have e : ((0 : Nat) : Int) - 1 = -1 := by omega
      rw [e] at hi
      subst hi
      go_wp2_with fail
      go_ret
      have e1 : out = L := by have := HF1.out; simpa [fall] using this
      have e2 := HM.out
      subst e2
      subst e1
      exact ⟨_, rfl, ownsRow_mono HO.out (by omega), hb⟩
    | succ j =>
      have e : ((j + 1 : Nat) : Int) - 1 = (j : Int) := by omega
      rw [e] at hi
      subst hi
      have g1 : (0 : Int) ≤ (j : Int) := by omega
      have y1 := hide_ (Y1.out j (by omega))
      have y2 := hide_ (Y2.out j (by omega))
      have HP := hide_ (HPP.out j)
      obtain ⟨-, -, o2, o3, -⟩ := HC.out.four
      obtain ⟨-, -, i2, i3, -⟩ := HA.out.four
      have hml : m + (fall P (j + 1)).length = L.length := by rw [← HF1.out, HM.out]; simp
      cases h1 : p1 j
      · rw [h1] at y1 HP
        go_wp2_with (first | (go_at_call_of 58 (Value.int IntKind.u64 (c2 : Int)); refine (y1.out _).mono ?_; rintro e wy1 ⟨rfl, by1⟩; obtain ⟨-, -, m2, m3, -⟩ := (HA.out.later by1).four))
        go_roundw
        case rel => exact ⟨j, m, ua, uc, out, by omega, by go_num, rfl, hide_ (by rw [← HF1.out, fall, HP.out]; simp), HM, hide_ (HA.out.later by1), hide_ (HC.out.later by1), hide_ (ownsRow_later HO.out by1), hb.trans (by1.mono hb.size)⟩
        case measure => simp [intOf]
      · rw [h1] at y1 HP
        cases h2 : p2 j
        · rw [h2] at y2 HP
          have hml2 : m + 1 ≤ L.length := by rw [← hml, fall, HP.out]; simp
          go_wp2_with (first | (go_at_call_of 58 (Value.int IntKind.u64 (c2 : Int)); refine (y1.out _).mono ?_; rintro e wy1 ⟨rfl, by1⟩; obtain ⟨-, -, m2, m3, -⟩ := (HA.out.later by1).four) | (go_at_call_of 58 (Value.int IntKind.u64 (c : Int)); refine (y2.out _).mono ?_; rintro e wy2 ⟨rfl, by2⟩) | (at_builtin; refine wpList_append_new (.tmp 23) (.tmp 25) 81 rfl 3 i0 (.int .i64 0) 1 8 Try.underlying81 HI.out.1 HI.out.2.1 HI.out.2.2.1 HI.out.2.2.2 rfl (by decide) (w.heap.size + 1 + 1) (.slice ua m uc) m (i64s out) (by simp [Act.eval, Act.put]) wy2 (ownsRow_later HO.out (by1.trans (by2.mono by1.size))) [.int .i64 (j : Int)] _ rfl 1 (by simp) (by simp [Value.oneCell']) (by simp [Act.eval, Act.put]) (by simp [Region.wanted]) (by unfold maxLen; omega) (by omega) (Nat.lt_of_lt_of_le HC.out.lt (Nat.le_trans by1.size by2.size)) ?_; intro v4 w4 ho4 hb4; obtain ⟨va, vc, rfl⟩ := own_slice ho4; have HO4 := hide_ ho4; have K4 : Hid (Below (w.heap.size + 1 + 1) wr w4) := hide_ (((by1.trans (by2.mono by1.size)).mono HC.out.lt).trans hb4); clear ho4 hb4))
          go_roundw
          case rel => exact ⟨j, m + 1, va, vc, out ++ [j], by omega, by go_num, rfl, hide_ (by rw [← HF1.out, fall, HP.out]; simp), hide_ (by have := HM.out; simp; omega), hide_ (HA.out.below K4.out (by omega)), hide_ (HC.out.below K4.out (by omega)), hide_ (by rw [i64s_app]; exact HO4.out), hb.trans (K4.out.mono (by omega))⟩
          case measure => simp [intOf]
        · rw [h2] at y2 HP
          go_wp2_with (first | (go_at_call_of 58 (Value.int IntKind.u64 (c2 : Int)); refine (y1.out _).mono ?_; rintro e wy1 ⟨rfl, by1⟩; obtain ⟨-, -, m2, m3, -⟩ := (HA.out.later by1).four) | (go_at_call_of 58 (Value.int IntKind.u64 (c : Int)); refine (y2.out _).mono ?_; rintro e wy2 ⟨rfl, by2⟩))
          go_roundw
          case rel => exact ⟨j, m, ua, uc, out, by omega, by go_num, rfl, hide_ (by rw [← HF1.out, fall, HP.out]; simp), HM, hide_ (HA.out.later (by1.trans (by2.mono by1.size))), hide_ (HC.out.later (by1.trans (by2.mono by1.size))), hide_ (ownsRow_later HO.out (by1.trans (by2.mono by1.size))), hb.trans ((by1.trans (by2.mono by1.size)).mono hb.size)⟩
          case measure => simp [intOf]

set_option maxRecDepth 100000 in
set_option maxHeartbeats 8000000 in
theorem rlist_any (a b : List Q4) (ha : isC a) (hb : isC b) (w : World) :
    Calls Try.prog 37 #[cv a, cv b] w fun e w' => ∃ u, e = .returned u ∧ CubesAt w' u (partsC a b) ∧ Below w.heap.size w w' := by
  have q0 := hide_ (fun w => rcclean_any a ha w)
  have q1 := hide_ (fun w => rcmeet_any a b ha hb w)
  have HLa := hide_ ha
  have HLb := hide_ hb
  have hla := hide_ ha.1
  have hlb := hide_ hb.1
  have hL := hide_ (partsC_isC a b ha)
  have hn := partsC_len a b
  have K1 := hide_ (fun h : okC a b = true => partsC_ok h)
  have K0 := hide_ (fun h : okC a b = false => partsC_no h)
  have hlM := hide_ (meetC_isC a b ha hb).1
  have hclC := hide_ (cleanC_isC a ha)
  have A0 := hide_ ((AB.at0 w 28 (tdc a)).alloc (.cells (tdc b).toArray 28))
  have C0 := hide_ (AB.at1 w (.cells (tdc a).toArray 28) 28 (tdc b))
  have B0 := hide_ (below2 w (.cells (tdc a).toArray 28) (.cells (tdc b).toArray 28))
  generalize meetC a b = M at *
  generalize cleanC a = left0 at *
  generalize partsC a b = L at *
  cases hok : okC a b
  all_goals
    rw [hok] at q1
    unfold cv at *
    clear ha hb
    obtain ⟨hz0, -⟩ := zero_of_info zC'
    go_enter Try.func37, Try.ntmps37
    go_upto_region 3 with (first | (refine wpList_loadA Try.underlying28 rfl (.tmp 2) rfl w.heap.size (by simp [Act.eval, Act.put]) (tdc a) (szC hla.out) (A0.out) ?_) | (go_at_call 56; refine (q0.out _).mono ?_; rintro e w1 ⟨rfl, b1⟩; have Z1 : Hid (AB (w1.alloc (.cells (tdc z24q).toArray 28)) w1.heap.size 28 (tdc z24q)) := hide_ (by exact AB.at0 w1 28 (tdc z24q)); have hs1 := b1.size; have hA1 := (A0.out.later b1).lt; have hC1 := (C0.out.later b1).lt; have bW : Below w1.heap.size w1 ((w1.alloc (.cells (tdc z24q).toArray 28)).setRow w1.heap.size (tdc left0).toArray) := (below1 w1 _).trans (below_row _ _ _ _ (Nat.le_refl _)); have A1 := hide_ ((A0.out.later b1).later bW); have C1 := hide_ ((C0.out.later b1).later bW); have L1 := hide_ (Z1.out.row (cs' := tdc left0)); have B1 := hide_ (B0.out.trans ((b1.trans (bW.mono b1.size)).mono B0.out.size))) | (refine wpList_storeA rfl (.tmp 5) (.tmp 15) rfl w1.heap.size (by simp [Act.eval, Act.put]) (tdc z24q) (tdc left0) (by rw [tdc_length, tdc_length, hclC.out.1, z24q_len]) (szC hclC.out.1) (tdc_one _) (by simp [Act.eval, Act.put]) Z1.out ?_) | (refine wpList_loadA Try.underlying28 rfl (.tmp 2) rfl w.heap.size (by simp [Act.eval, Act.put]) (tdc a) (szC hla.out) (A1.out) ?_) | (refine wpList_loadA Try.underlying28 rfl (.tmp 3) rfl (w.heap.size + 1) (by simp [Act.eval, Act.put]) (tdc b) (szC hlb.out) (C1.out) ?_) | (go_at_call 24; refine (q1.out _).mono ?_; rintro e w2 ⟨rfl, b2⟩; have Z2 : Hid (AB (w2.alloc (.cells (tdc z24q).toArray 28)) w2.heap.size 28 (tdc z24q)) := hide_ (by exact AB.at0 w2 28 (tdc z24q)); have bV : Below w2.heap.size w2 ((w2.alloc (.cells (tdc z24q).toArray 28)).setRow w2.heap.size (tdc M).toArray) := (below1 w2 _).trans (below_row _ _ _ _ (Nat.le_refl _)); have A2 := hide_ ((A1.out.later b2).later bV); have C2 := hide_ ((C1.out.later b2).later bV); have L2 := hide_ ((L1.out.later b2).later bV); have B2 := hide_ (B1.out.trans ((b2.trans (bV.mono b2.size)).mono B1.out.size))) | (refine wpList_storeA rfl (.tmp 6) (.tmp 20) rfl w2.heap.size (by simp [Act.eval, Act.put]) (tdc z24q) (tdc M) (by rw [tdc_length, tdc_length, hlM.out, z24q_len]) (szC hlM.out) (tdc_one _) (by simp [Act.eval, Act.put]) Z2.out ?_))
    generalize (w2.alloc (.cells (tdc z24q).toArray 28)).setRow w2.heap.size (tdc M).toArray = V at *
    clear b1 b2 bW bV A0 A1 C0 C1 L1 B0 B1 Z1 Z2
    generalize w1.heap.size = n0 at *
  · have hL1 := K0.out hok
    go_wp2_with (first | (refine wpList_loadA Try.underlying28 rfl (.tmp 5) rfl n0 (by simp [Act.eval, Act.put]) (tdc left0) (szC hclC.out.1) (L2.out) ?_) | (refine wpList_build1 rfl 29 28 (.tmp 24) rfl (tdc left0) (.agg (tdc z24q).toArray) 96 768 (by simp [Act.eval, Act.put]) Try.underlying29 infoC (by simp [Value.cells, szC0]) (by rw [tdc_length, hclC.out.1]) (by decide) (by decide) ?_))
    go_ret
    refine ⟨_, rfl, ⟨?_, hL.out⟩, B2.out.alloc B2.out.size _⟩
    rw [hL1]
    have := Cells.fresh V (tdc left0) 28 V.heap.size 96 1 rfl (by rw [tdc_length, hclC.out.1]) (by decide)
    simpa using this
  · have HL1 := hide_ (K1.out hok)
    clear hok K0 K1
    obtain ⟨N0, hN0⟩ : ∃ N0, V.heap.size = N0 := ⟨_, rfl⟩
    have hN : n0 < N0 := by rw [← hN0]; exact L2.out.lt
    have hNa : w.heap.size < N0 := by rw [← hN0]; exact A2.out.lt
    have hNb : w.heap.size + 1 < N0 := by rw [← hN0]; exact C2.out.lt
    have HO0 : Hid ((V.alloc (.cells #[] 28)).ownsRow N0 28 96 (.slice (some ⟨V.heap.size, 0, none⟩) 0 0) 0 []) := hide_ ⟨rfl, .inr ⟨V.heap.size, 0, #[], rfl, by omega, heap_alloc_last V _, Nat.le_refl _, Nat.zero_le _, rfl, rfl⟩⟩
    have A3 := hide_ (A2.out.alloc (.cells #[] 28))
    have C3 := hide_ (C2.out.alloc (.cells #[] 28))
    have L3 := hide_ (L2.out.alloc (.cells #[] 28))
    have B3 := hide_ (B2.out.alloc B2.out.size (.cells #[] 28))
    have hV3 : N0 ≤ (V.alloc (.cells #[] 28)).heap.size := by simp; omega
    clear A2 C2 L2 B2
    go_wp2_with fail
    generalize V.alloc (.cells #[] 28) = V3 at *
    try rw [hN0]
    try rw [hN0] at HO0
    clear hN0
    go_loopw [8, 9, 10, 11, 12, 13] (fun u i _ _ _ _ wr => ∃ (f : Nat) (pre : List (List Q4)) (left : List Q4), f ≤ 24 ∧ i = .int .i64 (f : Int) ∧ Hid (pre ++ fieldsP a b (List.range' f (24 - f)) left = L) ∧ Hid (wr.ownsRow N0 28 96 u pre.length (pre.flatMap tdc)) ∧ Hid (isC left) ∧ Hid (AB wr n0 28 (tdc left)) ∧ Hid (AB wr w.heap.size 28 (tdc a)) ∧ Hid (AB wr (w.heap.size + 1) 28 (tdc b)) ∧ N0 ≤ wr.heap.size ∧ Hid (Below w.heap.size w wr)) (fun _ i _ _ _ _ _ => 24 - (intOf i).toNat)
    case atStart => exact ⟨0, [], left0, by omega, rfl, hide_ HL1.out.symm, HO0, hclC, L3, A3, C3, hV3, B3⟩
    case round =>
      clear HO0 L3 A3 C3 hV3 B3
      obtain ⟨f, pre, left, hf, rfl, HE, HO, HI, HN, HA, HC, hNN, HB⟩ := hrel
      by_cases hlt : f < 24
      · have hlt' : (f : Int) < 24 := by omega
        have hf0 : (0 : Int) ≤ (f : Int) := by omega
        obtain ⟨a1, b1, c1, d1, e1, f1, h1, h2, h3, h4⟩ := getq HLa.out hlt
        obtain ⟨a2, b2, c2, d2, e2, f2, i1, i2, i3, i4⟩ := getq HLb.out hlt
        have HB4 := hide_ (And.intro i1 (And.intro i2 (And.intro e2 f2)))
        have HE1 : Hid (pre ++ (bitsP (cq b f) f (bitsq (cq a f) (cq b f)) left ++ fieldsP a b (List.range' (f + 1) (24 - (f + 1))) (bitsL (cq b f) f (bitsq (cq a f) (cq b f)) left)) = L) := hide_ (by rw [← HE.out, range'_cons f hlt]; rfl)
        have hbl : (bitsq (cq a f) (cq b f)).length ≤ 128 := fall_len _ 128
        have HBL := hide_ (bitsq_lt (cq a f) (cq b f))
        have q2 : Hid (∀ w, Calls Try.prog 57 #[td a1 b1 c1 d1, td a2 b2 c2 d2] w fun e w' => ∃ u, e = .returned u ∧ w'.ownsRow w.heap.size 3 1 u (bitsq (cq a f) (cq b f)).length (i64s (bitsq (cq a f) (cq b f))) ∧ Below w.heap.size w w') := hide_ (by rw [f1, f2]; exact fun w => rtbits_own a1 b1 c1 d1 a2 b2 c2 d2 w h1 h2 h3 h4 i1 i2 i3 i4)
        generalize bitsq (cq a f) (cq b f) = is at *
        obtain ⟨o0, o1, o2, o3, -⟩ := HA.out.quad e1
        obtain ⟨o4, o5, o6, o7, -⟩ := HC.out.quad e2
        clear e1 f1 e2 f2 h1 h2 h3 h4 i1 i2 i3 i4 HE
        unfold td at q2
        generalize hnn : is.length = nn at *
        have HNN := hide_ hnn
        clear hnn
        go_wp2_with fail
        go_region_held3 (fun w' => w'.cell? ⟨w.heap.size, f * 4, none⟩ = some (.int .u64 (a1 : Int)) ∧ w'.cell? ⟨w.heap.size, f * 4 + 1, none⟩ = some (.int .u64 (b1 : Int)) ∧ w'.cell? ⟨w.heap.size, f * 4 + 2, none⟩ = some (.int .u64 (c1 : Int)) ∧ w'.cell? ⟨w.heap.size, f * 4 + 3, none⟩ = some (.int .u64 (d1 : Int)) ∧ w'.cell? ⟨w.heap.size + 1, f * 4, none⟩ = some (.int .u64 (a2 : Int)) ∧ w'.cell? ⟨w.heap.size + 1, f * 4 + 1, none⟩ = some (.int .u64 (b2 : Int)) ∧ w'.cell? ⟨w.heap.size + 1, f * 4 + 2, none⟩ = some (.int .u64 (c2 : Int)) ∧ w'.cell? ⟨w.heap.size + 1, f * 4 + 3, none⟩ = some (.int .u64 (d2 : Int)) ∧ Below wr.heap.size wr w')
          (first | (with_reducible exact keepA8 (by assumption) (by assumption)) | (exact ⟨o0, o1, o2, o3, o4, o5, o6, o7, (Below.refl _ _).drew⟩) | (exact ⟨o0, o1, o2, o3, o4, o5, o6, o7, Below.refl _ _⟩))
          (first | (go_at_call 57; refine (q2.out _).mono ?_; rintro e w4 ⟨uu, rfl, hown, b4⟩; have hcl := Cells.ofOwn hown; have hown := hide_ hown; obtain ⟨-, ad, cap, rfl, -⟩ := hcl))
        rename_i hH
        have kk := hH.2.2.2.2.2.2.2.2
        clear hH
        have hkz := kk.size
        have HO4 := hide_ (own_later HO.out kk)
        have HOl : Hid (w4.ownsRow 0 3 1 (.slice ad nn cap) nn (i64s is)) := hide_ (ownsRow_mono hown.out (Nat.zero_le _))
        have N4 := hide_ (HN.out.later kk)
        have A4 := hide_ (HA.out.later kk)
        have C4 := hide_ (HC.out.later kk)
        have B4 := hide_ (HB.out.trans (kk.mono HB.out.size))
        have HE2 : Hid (pre ++ (bitsP (cq b f) f (is.drop 0) left ++ fieldsP a b (List.range' (f + 1) (24 - (f + 1))) (bitsL (cq b f) f (is.drop 0) left)) = L) := hide_ (by rw [List.drop_zero]; exact HE1.out)
        have hN4 : N0 ≤ w4.heap.size := by omega
        clear o0 o1 o2 o3 o4 o5 o6 o7 hown b4 q2 HE1 HN HA HC HB HO kk hkz
        go_wp2_with fail
        go_loopw [8, 11, 12, 13] (fun u i _ _ wr => ∃ (j : Nat) (pre : List (List Q4)) (left : List Q4), j ≤ nn ∧ i = .int .i64 (j : Int) ∧ Hid (pre ++ (bitsP (cq b f) f (is.drop j) left ++ fieldsP a b (List.range' (f + 1) (24 - (f + 1))) (bitsL (cq b f) f (is.drop j) left)) = L) ∧ Hid (wr.ownsRow N0 28 96 u pre.length (pre.flatMap tdc)) ∧ Hid (wr.ownsRow 0 3 1 (.slice ad nn cap) nn (i64s is)) ∧ Hid (isC left) ∧ Hid (AB wr n0 28 (tdc left)) ∧ Hid (AB wr w.heap.size 28 (tdc a)) ∧ Hid (AB wr (w.heap.size + 1) 28 (tdc b)) ∧ N0 ≤ wr.heap.size ∧ Hid (Below w.heap.size w wr)) (fun _ i _ _ _ => nn - (intOf i).toNat)
        case atStart => exact ⟨0, pre, left, by omega, rfl, HE2, HO4, HOl, HI, N4, A4, C4, hN4, B4⟩
        case round =>
          clear HE2 HO4 HOl HI N4 A4 C4 hN4 B4
          clear pre left
          obtain ⟨j, pre, left, hj, rfl, HE, HO, HOl, HI, HN, HA, HC, hNN2, HB⟩ := hrel
          by_cases hjn : j < nn
          · have hjn' : (j : Int) < (nn : Int) := by omega
            have hj0 : (0 : Int) ≤ (j : Int) := by omega
            obtain ⟨i, hi⟩ : ∃ i, is[j]? = some i := ⟨_, List.getElem?_eq_getElem (by have := HNN.out; omega)⟩
            have hi128 : i < 128 := HBL.out i (List.mem_of_getElem? hi)
            obtain ⟨g, cap', hv, hcell, -⟩ := own_cell HOl.out hi
            cases hv
            have hgl := (own_lt HOl.out (g := g) rfl).2
            have hgne : g ≠ n0 := fun e => own_ne HN.out HOl.out (by decide) (by rw [e]; rfl)
            obtain ⟨i1, i2, e2, f2⟩ := HB4.out
            obtain ⟨a3, b3, c3, d3, e3, f3, h1, h2, h3, h4⟩ := getq HI.out hlt
            have HIl := hide_ HI.out.1
            have Hon : Hid (onq (cq b f) i = hasb a2 b2 i) := hide_ (by rw [f2]; rfl)
            have HE1 : Hid (pre ++ (putq left f i (!onq (cq b f) i) :: (bitsP (cq b f) f (is.drop (j + 1)) (putq left f i (onq (cq b f) i)) ++ fieldsP a b (List.range' (f + 1) (24 - (f + 1))) (bitsL (cq b f) f (is.drop (j + 1)) (putq left f i (onq (cq b f) i))))) = L) := hide_ (by rw [← HE.out, drop_cons_at hi]; rfl)
            have hlen := (pre_mem (pre_snoc HE1.out)).2
            have HP1 := hide_ (putq_isC HI.out hlt hi128 (onq (cq b f) i))
            have HP2 := hide_ (putq_isC HI.out hlt hi128 (!onq (cq b f) i)).1
            rw [Hon.out] at HE1 HP1 HP2
            have q3 := hide_ (fun w => rhasb a2 b2 i w i1 i2 hi128)
            generalize hasb a2 b2 i = z at *
            have q4 : Hid (∀ w, Calls Try.prog 59 #[td a3 b3 c3 d3, .int .i64 (i : Int), .bool (!z)] w fun e w' => e = .returned (td (fixv (a3 &&& c3) (bh i) (!z)) (fixv (b3 &&& d3) (bl i) (!z)) (c3 ||| bh i) (d3 ||| bl i)) ∧ Below w.heap.size w w') := hide_ (fun w => by have := rtfix_any a3 b3 c3 d3 (i : Int) (!z) w h1 h2 h3 h4; rwa [bhz_nat i hi128, blz_nat i hi128] at this)
            have q5 : Hid (∀ w, Calls Try.prog 59 #[td a3 b3 c3 d3, .int .i64 (i : Int), .bool z] w fun e w' => e = .returned (td (fixv (a3 &&& c3) (bh i) z) (fixv (b3 &&& d3) (bl i) z) (c3 ||| bh i) (d3 ||| bl i)) ∧ Below w.heap.size w w') := hide_ (fun w => by have := rtfix_any a3 b3 c3 d3 (i : Int) z w h1 h2 h3 h4; rwa [bhz_nat i hi128, blz_nat i hi128] at this)
            have HX : Hid (putq left f i (!z) = left.set f (fixv (a3 &&& c3) (bh i) (!z), fixv (b3 &&& d3) (bl i) (!z), c3 ||| bh i, d3 ||| bl i)) := hide_ (by unfold putq; rw [f3]; rfl)
            have HXL : Hid (putq left f i z = left.set f (fixv (a3 &&& c3) (bh i) z, fixv (b3 &&& d3) (bl i) z, c3 ||| bh i, d3 ||| bl i)) := hide_ (by unfold putq; rw [f3]; rfl)
            generalize fixv (a3 &&& c3) (bh i) (!z) = x1 at *
            generalize fixv (b3 &&& d3) (bl i) (!z) = x2 at *
            generalize fixv (a3 &&& c3) (bh i) z = y1 at *
            generalize fixv (b3 &&& d3) (bl i) z = y2 at *
            generalize c3 ||| bh i = x3 at *
            generalize d3 ||| bl i = x4 at *
            generalize putq left f i (!z) = px at *
            generalize putq left f i z = pl at *
            have HE3 := hide_ e3
            have HIJ := hide_ hi
            obtain ⟨o0, o1, -⟩ := HC.out.quad e2
            clear e2 f2 e3 f3 h1 h2 h3 h4 i1 i2 HE hi Hon
            unfold td at q4 q5
            unfold wd at q3
            have hn0 := HN.out.lt
            go_wp2_with fail
            go_region_held3 (fun w' => w'.cell? ⟨w.heap.size + 1, f * 4, none⟩ = some (.int .u64 (a2 : Int)) ∧ w'.cell? ⟨w.heap.size + 1, f * 4 + 1, none⟩ = some (.int .u64 (b2 : Int)) ∧ w'.cell? ⟨g, j, none⟩ = some (.int .i64 (i : Int)) ∧ Below wr.heap.size wr w')
              (first | (with_reducible exact keepA3 (by assumption) (by assumption)) | (exact ⟨o0, o1, hcell, (Below.refl _ _).drew⟩) | (exact ⟨o0, o1, hcell, Below.refl _ _⟩))
              (first | (go_at_call 58; refine (q3.out _).mono ?_; rintro e w4 ⟨rfl, b4⟩))
            rename_i hH
            have k4 := hH.2.2.2
            clear hH b4
            have hs4 := k4.size
            have Z4 : Hid (AB (w4.alloc (.cells (tdc z24q).toArray 28)) w4.heap.size 28 (tdc z24q)) := hide_ (by exact AB.at0 w4 28 (tdc z24q))
            have P4 := hide_ (Z4.out.row (cs' := tdc left))
            have bV : Below w4.heap.size w4 ((w4.alloc (.cells (tdc z24q).toArray 28)).setRow w4.heap.size (tdc left).toArray) := (below1 w4 _).trans (below_row _ _ _ _ (Nat.le_refl _))
            have k5 : Below wr.heap.size wr ((w4.alloc (.cells (tdc z24q).toArray 28)).setRow w4.heap.size (tdc left).toArray) := k4.trans (bV.mono k4.size)
            obtain ⟨s0, s1, s2, s3, -⟩ := (HN.out.later k5).quad HE3.out
            have hcell5 := cell_later k5 hcell
            go_upto_region 15 with (first | (refine wpList_loadA Try.underlying28 rfl (.tmp 5) rfl n0 (by simp [Act.eval, Act.put]) (tdc left) (szC HIl.out) (HN.out.later k4) ?_) | (refine wpList_storeA rfl (.tmp 13) (.tmp 53) rfl w4.heap.size (by simp [Act.eval, Act.put]) (tdc z24q) (tdc left) (by rw [tdc_length, tdc_length, HIl.out, z24q_len]) (szC HIl.out) (tdc_one _) (by simp [Act.eval, Act.put]) Z4.out ?_))
            generalize (w4.alloc (.cells (tdc z24q).toArray 28)).setRow w4.heap.size (tdc left).toArray = V5 at *
            generalize w4.heap.size = m at *
            clear Z4 bV k4 o0 o1
            go_region_held3 (fun w' => w'.cell? ⟨n0, f * 4, none⟩ = some (.int .u64 (a3 : Int)) ∧ w'.cell? ⟨n0, f * 4 + 1, none⟩ = some (.int .u64 (b3 : Int)) ∧ w'.cell? ⟨n0, f * 4 + 2, none⟩ = some (.int .u64 (c3 : Int)) ∧ w'.cell? ⟨n0, f * 4 + 3, none⟩ = some (.int .u64 (d3 : Int)) ∧ w'.cell? ⟨g, j, none⟩ = some (.int .i64 (i : Int)) ∧ Below wr.heap.size wr w')
              (first | (with_reducible exact keepA5 (by assumption) (by assumption)) | (with_reducible exact keepA5s (by assumption) hs4 (by dsimp only; omega) (by dsimp only; omega) (by dsimp only; omega) (by dsimp only; omega) (by dsimp only; omega)) | (exact ⟨s0, s1, s2, s3, hcell5, k5.drew⟩) | (exact ⟨s0, s1, s2, s3, hcell5, k5⟩))
              (first | (go_at_call 59; refine (q4.out _).mono ?_; rintro e w6 ⟨rfl, b6⟩; have b6 := hide_ ((Below.refl V5.heap.size V5).drew.trans b6); obtain ⟨t0, t1, t2, t3, t4, t5, t6, t7⟩ := (P4.out.later b6.out).quad HE3.out))
            rename_i hH
            have kW := hH.2.2.2.2.2
            clear hH
            have X6 : Hid (AB ((((w6.setCell ⟨m, f * 4, none⟩ (.int .u64 (x1 : Int))).setCell ⟨m, f * 4 + 1, none⟩ (.int .u64 (x2 : Int))).setCell ⟨m, f * 4 + 2, none⟩ (.int .u64 (x3 : Int))).setCell ⟨m, f * 4 + 3, none⟩ (.int .u64 (x4 : Int))) m 28 (tdc px)) := hide_ (by rw [HX.out]; exact (P4.out.later b6.out).setq f x1 x2 x3 x4)
            clear t0 t1 t2 t3 t4 t5 t6 t7 P4 b6 s0 s1 s2 s3 hcell5 hcell k5
            generalize ((((w6.setCell ⟨m, f * 4, none⟩ (.int .u64 (x1 : Int))).setCell ⟨m, f * 4 + 1, none⟩ (.int .u64 (x2 : Int))).setCell ⟨m, f * 4 + 2, none⟩ (.int .u64 (x3 : Int))).setCell ⟨m, f * 4 + 3, none⟩ (.int .u64 (x4 : Int))) = W6 at *
            have N6 := hide_ (HN.out.later kW)
            have A6 := hide_ (HA.out.later kW)
            have C6 := hide_ (HC.out.later kW)
            have O6 := hide_ (own_later HO.out kW)
            have OL6 := hide_ (own_later HOl.out kW)
            have B6 := hide_ (HB.out.trans (kW.mono HB.out.size))
            have hs6 : N0 ≤ W6.heap.size := by have := kW.size; omega
            obtain ⟨i0, hi0, hz0, hz1, hz2⟩ := info_parts infoC
            have HII : Hid (Try.prog.info? 28 = some i0 ∧ i0.zero = some (.agg (tdc z24q).toArray) ∧ i0.size = 96 ∧ i0.bytes = 768) := hide_ ⟨hi0, hz0, hz1, hz2⟩
            clear hi0 hz0 hz1 hz2 HN HA HC HO HOl HB kW
            go_upto_region 17 with (first | (refine wpList_loadA Try.underlying28 rfl (.tmp 13) rfl m (by simp [Act.eval, Act.put]) (tdc px) (szC HP2.out) (X6.out) ?_) | (refine wpList_build1 rfl 29 28 (.tmp 67) rfl (tdc px) (.agg (tdc z24q).toArray) 96 768 (by simp [Act.eval, Act.put]) Try.underlying29 infoC (by simp [Value.cells, szC0]) (by rw [tdc_length, HP2.out]) (by decide) (by decide) ?_) | (at_builtin; refine wpList_append_own_at _ rfl (.tmp 66) (.tmp 68) 29 rfl N0 28 i0 (.agg (tdc z24q).toArray) 96 768 Try.underlying29 HII.out.1 HII.out.2.1 HII.out.2.2.1 HII.out.2.2.2 (by simp [Value.cells, szC0]) (by decide) u8 pre.length (pre.flatMap tdc) (by simp [Act.eval, Act.put]) (O6.out.alloc _) ⟨W6.heap.size, 0, none⟩ 1 1 (tdc px) (by simp [Act.eval, Act.put]) (by rw [tdc_length, HP2.out]) (news_alloc _ _ _) (tdc_one _) (by unfold maxLen; omega) (by omega) (by simp; omega) ?_; intro v1 w7 ho1 hgrow hnil hat; have ho1 := hide_ ho1; have hgrow := hide_ hgrow; clear hnil hat))
            have hrow : ∀ k, u8.ownBlock = some k → N0 ≤ k := fun k hk => (own_lt O6.out hk).1
            have N7 := hide_ ((N6.out.alloc _).grown hgrow.out (fun e => by have := hrow _ e; omega))
            have A7 := hide_ ((A6.out.alloc _).grown hgrow.out (fun e => by have := hrow _ e; omega))
            have C7 := hide_ ((C6.out.alloc _).grown hgrow.out (fun e => by have := hrow _ e; omega))
            have OL7 := hide_ (own_grown (OL6.out.alloc _) hgrow.out (fun g1 k1 e => own_ne2 OL6.out O6.out (by decide) g1 k1 e))
            have B7 := hide_ ((B6.out.alloc B6.out.size _).grown hgrow.out (by have := B6.out.size; simp; omega) (fun k hk => by have := hrow k hk; omega))
            have hs7 : N0 ≤ w7.heap.size := by have := hgrow.out.size; simp at this; omega
            have hv1 : v1.ownBlock ≠ some n0 := fun e => by have := (own_lt ho1.out e).1; omega
            clear N6 A6 C6 O6 OL6 B6 X6 hgrow hrow
            obtain ⟨g', capx, hvx, hcell7, -⟩ := own_cell OL7.out HIJ.out
            cases hvx
            obtain ⟨s0, s1, s2, s3, -⟩ := N7.out.quad HE3.out
            go_region_with (first | (go_at_call 59; refine (q5.out _).mono ?_; rintro e w8 ⟨rfl, b8⟩; have k8 : Below w7.heap.size w7 w8 := (Below.refl _ _).drew.trans b8; obtain ⟨t0, t1, t2, t3, t4, t5, t6, t7⟩ := (N7.out.later k8).quad HE3.out))
            all_goals
              go_wp2_with fail
              go_roundw
              case rel => exact ⟨j + 1, pre ++ [px], pl, by omega, by go_num, hide_ (by rw [← HE1.out]; simp), hide_ (by have := own_set4 (own_later ho1.out k8) hv1 (f * 4) (f * 4 + 1) (f * 4 + 2) (f * 4 + 3) (.int .u64 (y1 : Int)) (.int .u64 (y2 : Int)) (.int .u64 (x3 : Int)) (.int .u64 (x4 : Int)); simpa using this), hide_ (own_set4 (own_later OL7.out k8) (own_ne (N7.out.later k8) (own_later OL7.out k8) (by decide)) _ _ _ _ _ _ _ _), HP1, hide_ (by rw [HXL.out]; exact (N7.out.later k8).setq f y1 y2 x3 x4), hide_ (((((A7.out.later k8).far _ (by omega)).far _ (by omega)).far _ (by omega)).far _ (by omega)), hide_ (((((C7.out.later k8).far _ (by omega)).far _ (by omega)).far _ (by omega)).far _ (by omega)), (by have := k8.size; simp [World.setCell]; omega), hide_ (below_fillq (B7.out.trans (k8.mono B7.out.size)) (by omega) _ _ _ _ _ _ _ _)⟩
              case measure => simp [intOf]; omega
          · have hjn' : ¬ (j : Int) < (nn : Int) := by omega
            have e : j = nn := by omega
            subst e
            have HE1 : Hid (pre ++ fieldsP a b (List.range' (f + 1) (24 - (f + 1))) left = L) := hide_ (by have := HE.out; rw [← HNN.out, List.drop_length] at this; exact this)
            go_wp2_with fail
            go_roundw
            case rel => exact ⟨f + 1, pre, left, by omega, by go_num, HE1, HO, HI, HN, HA, HC, hNN2, HB⟩
            case measure => simp [intOf]; omega
      · have hlt' : ¬ (f : Int) < 24 := by omega
        have e : f = 24 := by omega
        subst e
        have e : pre = L := (by have := HE.out; simpa [fieldsP] using this)
        have HF := hide_ (e ▸ HO.out)
        go_wp2_with fail
        go_ret
        exact ⟨_, rfl, ⟨Cells.ofOwn HF.out, hL.out⟩, HB.out⟩

end Go.Proofs.Ytbdbehdgpmfelaa
