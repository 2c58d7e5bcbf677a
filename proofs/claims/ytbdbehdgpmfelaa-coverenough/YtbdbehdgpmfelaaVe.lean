import Derived.Test.YtbdbehdgpmfelaaVd
namespace Go.Proofs.Ytbdbehdgpmfelaa
open Go Go.RowKit
set_option linter.unusedVariables false
set_option linter.unusedSimpArgs false
attribute [local go_sem] Oper.semAt_some

theorem range'_cons (f : Nat) (hf : f < 24) : List.range' f (24 - f) = f :: List.range' (f + 1) (24 - (f + 1)) := by
  rw [show 24 - f = (24 - (f + 1)) + 1 by omega, List.range'_succ]
theorem getq {l : List Q4} (hl : isC l) {k : Nat} (hk : k < 24) : ∃ a b c d, l[k]? = some (a, b, c, d) ∧ cq l k = (a, b, c, d) ∧ a < 18446744073709551616 ∧ b < 18446744073709551616 ∧ c < 18446744073709551616 ∧ d < 18446744073709551616 := by
  obtain ⟨a, b, c, d, e, h⟩ := hl.get hk
  exact ⟨a, b, c, d, e, cq_at e, h⟩
theorem pre_snoc {α : Type} {pre L : List α} {x : α} {rest : List α} (h : pre ++ x :: rest = L) : pre ++ [x] <+: L := ⟨rest, by rw [← h]; simp⟩
theorem own_cell {w : World} {base : Nat} {e : TypeId} {v : Value} {n : Nat} {is : List Nat} {j i : Nat} (h : w.ownsRow base e 1 v n (i64s is)) (hj : is[j]? = some i) : ∃ g cap, v = .slice (some ⟨g, 0, none⟩) n cap ∧ w.cell? ⟨g, j, none⟩ = some (.int .i64 (i : Int)) ∧ j < n := by
  have hl := h.1
  have hjl : j < is.length := (List.getElem?_eq_some_iff.1 hj).1
  simp [i64s] at hl
  rcases h.2 with ⟨rfl, rfl⟩ | ⟨g, cap, cur, rfl, hb, hg, h1, h2, h3, h4⟩
  · omega
  · refine ⟨g, cap, rfl, ?_, by omega⟩
    rw [cell_of_row w g j _ e _ hg]
    have : (i64s is)[j]? = some (.int .i64 (i : Int)) := by simp [i64s, hj]
    rw [← h4, List.getElem?_take] at this
    split at this
    · simpa using this
    · cases this

theorem own_ne {w : World} {n : Nat} {ty : TypeId} {cs : List Value} {base : Nat} {e : TypeId} {size : Nat} {v : Value} {k : Nat} {xs : List Value} (ha : AB w n ty cs) (ho : w.ownsRow base e size v k xs) (hne : ty ≠ e) : v.ownBlock ≠ some n := by
  intro h
  rcases ho.2 with ⟨rfl, -⟩ | ⟨g, cap, cur, rfl, hb, hg, -⟩
  · cases h
  · have e2 : g = n := by simpa [Value.ownBlock] using h
    subst e2
    unfold AB at ha
    rw [ha] at hg
    simp at hg
    exact hne hg.2
theorem own_set {w : World} {n o : Nat} {base : Nat} {e : TypeId} {size : Nat} {v : Value} {k : Nat} {xs : List Value} (ho : w.ownsRow base e size v k xs) (hne : v.ownBlock ≠ some n) (x : Value) : (w.setCell ⟨n, o, none⟩ x).ownsRow base e size v k xs := by
  refine ⟨ho.1, ?_⟩
  rcases ho.2 with h | ⟨g, cap, cur, rfl, hb, hg, r⟩
  · exact .inl h
  · exact .inr ⟨g, cap, cur, rfl, hb, (Below.heap_setCell _ _ _ _ (fun e => hne (by rw [Value.ownBlock]; exact congrArg some e))).trans hg, r⟩
theorem own_set4 {w : World} {n : Nat} {base : Nat} {e : TypeId} {size : Nat} {v : Value} {k : Nat} {xs : List Value} (ho : w.ownsRow base e size v k xs) (hne : v.ownBlock ≠ some n) (o0 o1 o2 o3 : Nat) (x y z u : Value) : ((((w.setCell ⟨n, o0, none⟩ x).setCell ⟨n, o1, none⟩ y).setCell ⟨n, o2, none⟩ z).setCell ⟨n, o3, none⟩ u).ownsRow base e size v k xs :=
  own_set (own_set (own_set (own_set ho hne _) hne _) hne _) hne _

set_option maxRecDepth 100000 in
set_option maxHeartbeats 8000000 in
theorem parts2_seq (a b : List Q4) (ha : isC a) (hb : isC b) (ga gb : Nat) (w : World) (R : Nat → Prop) (hga : R ga) (hgb : R gb) (hA : AB w ga 28 (tdc a)) (hB : AB w gb 28 (tdc b)) :
    SeqX Try.prog 50 #[.pointer (some ⟨ga, 0, none⟩), .pointer (some ⟨gb, 0, none⟩)] (fun x => #[cv x]) (fieldsP a b (List.range' 0 24) (cleanC a)) R w := by
  intro l J Jx W hW hJ hJx hJg hY h0
  have HLa := hide_ ha
  have HLb := hide_ hb
  have HJ := hide_ hJ
  have HJx := hide_ hJx
  have HJg := hide_ hJg
  have HY := hide_ hY
  have q0 := hide_ (fun w => cclean_any a ha w)
  have hla := hide_ ha.1
  have hclC := hide_ (cleanC_isC a ha)
  have A0 := hide_ (hA.later hW)
  have C0 := hide_ (hB.later hW)
  obtain ⟨L, hL⟩ : ∃ L, fieldsP a b (List.range' 0 24) (cleanC a) = L := ⟨_, rfl⟩
  rw [hL] at HY
  rw [hL]
  have HL := hide_ hL
  have H0 := hide_ h0
  generalize hcl : cleanC a = left0 at *
  clear hcl hL h0 hY hJ hJx hJg ha hb hA hB hW
  have HRR := hide_ (And.intro hga hgb)
  clear hga hgb
  unfold cv at *
  show Calls Try.prog 50 #[.func (.yield l) #[] #[], .pointer (some ⟨ga, 0, none⟩), .pointer (some ⟨gb, 0, none⟩)] W _
  obtain ⟨hz0, -⟩ := zero_of_info zC'
  go_enter Try.func50, Try.ntmps50
  go_step3
  go_wp2_with (first | go_step3 | (refine wpList_loadA Try.underlying28 rfl (.tmp 1) rfl ga (by simp [Act.eval, Act.put]) (tdc a) (szC hla.out) A0.out ?_) | (go_at_call 48; refine (q0.out _).mono ?_; rintro e w1 ⟨rfl, b1⟩; have Z1 : Hid (AB (w1.alloc (.cells (tdc z24q).toArray 28)) w1.heap.size 28 (tdc z24q)) := hide_ (by exact AB.at0 w1 28 (tdc z24q))) | (refine wpList_storeA rfl (.tmp 4) (.tmp 11) rfl w1.heap.size (by simp [Act.eval, Act.put]) (tdc z24q) (tdc left0) (by rw [tdc_length, tdc_length, hclC.out.1, z24q_len]) (szC hclC.out.1) (tdc_one _) (by simp [Act.eval, Act.put]) Z1.out ?_))
  have hga1 := (A0.out.later b1).lt
  have hgb1 := (C0.out.later b1).lt
  have bW : Below W.heap.size W (w1.alloc (.cells (tdc z24q).toArray 28)) := b1.alloc b1.size _
  have J1 : Hid (J (Grow (fun _ => False) W (w1.alloc (.cells (tdc z24q).toArray 28))) [] ((w1.alloc (.cells (tdc z24q).toArray 28)).setRow w1.heap.size (tdc left0).toArray)) := hide_ (HJ.out _ _ _ _ (HJg.out _ _ _ _ H0.out bW) (Out.setRow (.inr ⟨b1.size, by simp⟩) _))
  have S1 : Hid (Grow (fun _ => False) W (w1.alloc (.cells (tdc z24q).toArray 28)) w1.heap.size ∧ R ga ∧ R gb) := hide_ ⟨.inr ⟨b1.size, by simp⟩, HRR.out.1, HRR.out.2⟩
  have A1 := hide_ (((A0.out.later b1).alloc (.cells (tdc z24q).toArray 28)).row_far (f := w1.heap.size) (tdc left0).toArray (by omega))
  have C1 := hide_ (((C0.out.later b1).alloc (.cells (tdc z24q).toArray 28)).row_far (f := w1.heap.size) (tdc left0).toArray (by omega))
  have L1 := hide_ (Z1.out.row (cs' := tdc left0))
  generalize Grow (fun _ => False) W (w1.alloc (.cells (tdc z24q).toArray 28)) = S0 at *
  clear A0 C0 H0 HRR Z1 bW b1
  try simp only [Act.put]
  generalize (w1.alloc (.cells (tdc z24q).toArray 28)).setRow w1.heap.size (tdc left0).toArray = V at *
  generalize w1.heap.size = n0 at *
  go_loopw [12] (fun i wr => ∃ (f : Nat) (S : Nat → Prop) (pre : List (List Q4)) (left : List Q4), f ≤ 24 ∧ i = .int .i64 (f : Int) ∧ Hid (pre ++ fieldsP a b (List.range' f (24 - f)) left = L) ∧ Hid (S n0 ∧ R ga ∧ R gb) ∧ Hid (isC left) ∧ Hid (AB wr n0 28 (tdc left)) ∧ Hid (AB wr ga 28 (tdc a)) ∧ Hid (AB wr gb 28 (tdc b)) ∧ Hid (J S pre wr)) (fun i _ => 24 - (intOf i).toNat)
  case atStart => exact ⟨0, S0, [], left0, by omega, rfl, hide_ HL.out, S1, hclC, L1, A1, C1, J1⟩
  case round =>
    obtain ⟨f, S, pre, left, hf, rfl, HE, HS, HI, HN, HA, HC, HJJ⟩ := hrel
    by_cases hlt : f < 24
    · have hlt' : (f : Int) < 24 := by omega
      have hf0 : (0 : Int) ≤ (f : Int) := by omega
      obtain ⟨a1, b1, c1, d1, e1, f1, h1, h2, h3, h4⟩ := getq HLa.out hlt
      obtain ⟨a2, b2, c2, d2, e2, f2, i1, i2, i3, i4⟩ := getq HLb.out hlt
      have HB4 := hide_ (And.intro i1 (And.intro i2 (And.intro e2 f2)))
      have HE1 : Hid (pre ++ (bitsP (cq b f) f (bitsq (cq a f) (cq b f)) left ++ fieldsP a b (List.range' (f + 1) (24 - (f + 1))) (bitsL (cq b f) f (bitsq (cq a f) (cq b f)) left)) = L) := hide_ (by rw [← HE.out, range'_cons f hlt]; rfl)
      have hbl : (bitsq (cq a f) (cq b f)).length ≤ 128 := fall_len _ 128
      have HBL := hide_ (bitsq_lt (cq a f) (cq b f))
      have q1 : Hid (∀ w, Calls Try.prog 51 #[td a1 b1 c1 d1, td a2 b2 c2 d2] w fun e w' => ∃ u, e = .returned u ∧ w'.ownsRow w.heap.size 3 1 u (bitsq (cq a f) (cq b f)).length (i64s (bitsq (cq a f) (cq b f))) ∧ Below w.heap.size w w') := hide_ (by rw [f1, f2]; exact fun w => tbits_own a1 b1 c1 d1 a2 b2 c2 d2 w h1 h2 h3 h4 i1 i2 i3 i4)
      generalize bitsq (cq a f) (cq b f) = is at *
      obtain ⟨o0, o1, o2, o3, -⟩ := HA.out.quad e1
      obtain ⟨o4, o5, o6, o7, -⟩ := HC.out.quad e2
      clear e1 f1 e2 f2 h1 h2 h3 h4 i1 i2 i3 i4 HE
      unfold td at q1
      generalize hnn : is.length = nn at *
      have HNN := hide_ hnn
      clear hnn
      go_wp2_with fail
      go_region_held3 (fun w' => w'.cell? ⟨ga, f * 4, none⟩ = some (.int .u64 (a1 : Int)) ∧ w'.cell? ⟨ga, f * 4 + 1, none⟩ = some (.int .u64 (b1 : Int)) ∧ w'.cell? ⟨ga, f * 4 + 2, none⟩ = some (.int .u64 (c1 : Int)) ∧ w'.cell? ⟨ga, f * 4 + 3, none⟩ = some (.int .u64 (d1 : Int)) ∧ w'.cell? ⟨gb, f * 4, none⟩ = some (.int .u64 (a2 : Int)) ∧ w'.cell? ⟨gb, f * 4 + 1, none⟩ = some (.int .u64 (b2 : Int)) ∧ w'.cell? ⟨gb, f * 4 + 2, none⟩ = some (.int .u64 (c2 : Int)) ∧ w'.cell? ⟨gb, f * 4 + 3, none⟩ = some (.int .u64 (d2 : Int)) ∧ Below wr.heap.size wr w')
        (first | (with_reducible exact keepA8 (by assumption) (by assumption)) | (exact ⟨o0, o1, o2, o3, o4, o5, o6, o7, (Below.refl _ _).drew⟩) | (exact ⟨o0, o1, o2, o3, o4, o5, o6, o7, Below.refl _ _⟩))
        (first | (go_at_call 51; refine (q1.out _).mono ?_; rintro e w4 ⟨u, rfl, hown, b4⟩; have hcl := Cells.ofOwn hown; have hown := hide_ hown; obtain ⟨-, ad, cap, rfl, -⟩ := hcl))
      rename_i hH
      have kk := hH.2.2.2.2.2.2.2.2
      clear hH
      have J4 := hide_ (HJg.out _ _ _ _ HJJ.out kk)
      have hsz4 : wr.heap.size ≤ w4.heap.size := kk.size
      have S4 : Hid (Grow S wr w4 n0 ∧ R ga ∧ R gb) := hide_ ⟨.inl HS.out.1, HS.out.2.1, HS.out.2.2⟩
      have O4 : Hid (∀ g, (Value.slice ad nn cap).ownBlock = some g → Grow S wr w4 g) := hide_ (fun g hg => by
        rcases hown.out.2 with ⟨k1, k2⟩ | ⟨g', cap', cur, k1, k2, k3, -⟩
        · cases k1; cases hg
        · cases k1; cases hg; exact .inr ⟨k2, (Array.getElem?_eq_some_iff.1 k3).1⟩)
      have N4 := hide_ (HN.out.later kk)
      have A4 := hide_ (HA.out.later kk)
      have C4 := hide_ (HC.out.later kk)
      have HO : Hid (w4.ownsRow 0 3 1 (.slice ad nn cap) nn (i64s is)) := hide_ (ownsRow_mono hown.out (Nat.zero_le _))
      have HE2 : Hid (pre ++ (bitsP (cq b f) f (is.drop 0) left ++ fieldsP a b (List.range' (f + 1) (24 - (f + 1))) (bitsL (cq b f) f (is.drop 0) left)) = L) := hide_ (by rw [List.drop_zero]; exact HE1.out)
      clear o0 o1 o2 o3 o4 o5 o6 o7 hown b4 q1 HE1 HJJ HN HA HC kk
      generalize Grow S wr w4 = S4' at *
      clear HS
      go_wp2_with fail
      go_loopw [23] (fun i wr => ∃ (j : Nat) (S : Nat → Prop) (pre : List (List Q4)) (left : List Q4), j ≤ nn ∧ i = .int .i64 (j : Int) ∧ Hid (pre ++ (bitsP (cq b f) f (is.drop j) left ++ fieldsP a b (List.range' (f + 1) (24 - (f + 1))) (bitsL (cq b f) f (is.drop j) left)) = L) ∧ Hid (wr.ownsRow 0 3 1 (.slice ad nn cap) nn (i64s is)) ∧ Hid (∀ g, (Value.slice ad nn cap).ownBlock = some g → S g) ∧ Hid (S n0 ∧ R ga ∧ R gb) ∧ Hid (isC left) ∧ Hid (AB wr n0 28 (tdc left)) ∧ Hid (AB wr ga 28 (tdc a)) ∧ Hid (AB wr gb 28 (tdc b)) ∧ Hid (J S pre wr)) (fun i _ => nn - (intOf i).toNat)
      case atStart => exact ⟨0, S4', pre, left, by omega, rfl, HE2, HO, O4, S4, HI, N4, A4, C4, J4⟩
      case round =>
        clear HE2 HO O4 S4 HI N4 A4 C4 J4
        clear pre left
        rename_i wr0 _ _ _ _ wr1
        obtain ⟨j, S, pre, left, hj, rfl, HE, HO, HOS, HS, HI, HN, HA, HC, HJJ⟩ := hrel
        by_cases hjn : j < nn
        · have hjn' : (j : Int) < (nn : Int) := by omega
          have hj0 : (0 : Int) ≤ (j : Int) := by omega
          obtain ⟨i, hi⟩ : ∃ i, is[j]? = some i := ⟨_, List.getElem?_eq_getElem (by have := HNN.out; omega)⟩
          have hi128 : i < 128 := HBL.out i (List.mem_of_getElem? hi)
          obtain ⟨g, cap', hv, hcell, -⟩ := own_cell HO.out hi
          cases hv
          obtain ⟨i1, i2, e2, f2⟩ := HB4.out
          obtain ⟨a3, b3, c3, d3, e3, f3, h1, h2, h3, h4⟩ := getq HI.out hlt
          have HIl := hide_ HI.out.1
          have Hon : Hid (onq (cq b f) i = hasb a2 b2 i) := hide_ (by rw [f2]; rfl)
          have HE1 : Hid (pre ++ (putq left f i (!onq (cq b f) i) :: (bitsP (cq b f) f (is.drop (j + 1)) (putq left f i (onq (cq b f) i)) ++ fieldsP a b (List.range' (f + 1) (24 - (f + 1))) (bitsL (cq b f) f (is.drop (j + 1)) (putq left f i (onq (cq b f) i))))) = L) := hide_ (by rw [← HE.out, drop_cons_at hi]; rfl)
          have HP1 := hide_ (putq_isC HI.out hlt hi128 (onq (cq b f) i))
          have HP2 := hide_ (putq_isC HI.out hlt hi128 (!onq (cq b f) i)).1
          rw [Hon.out] at HE1 HP1 HP2
          have q1 := hide_ (fun w => lit_any a2 b2 c2 d2 i w hi128 i1 i2)
          generalize hasb a2 b2 i = z at *
          have q2 := hide_ (fun w => tfix_nat a3 b3 c3 d3 i (!z) w hi128 h1 h2 h3 h4)
          have q3 := hide_ (fun w => tfix_nat a3 b3 c3 d3 i z w hi128 h1 h2 h3 h4)
          have HX : Hid (putq left f i (!z) = left.set f (fixv (a3 &&& c3) (bh i) (!z), fixv (b3 &&& d3) (bl i) (!z), c3 ||| bh i, d3 ||| bl i)) := hide_ (by unfold putq; rw [f3]; rfl)
          have HXL : Hid (putq left f i z = left.set f (fixv (a3 &&& c3) (bh i) z, fixv (b3 &&& d3) (bl i) z, c3 ||| bh i, d3 ||| bl i)) := hide_ (by unfold putq; rw [f3]; rfl)
          generalize fixv (a3 &&& c3) (bh i) (!z) = x1 at *
          generalize fixv (b3 &&& d3) (bl i) (!z) = x2 at *
          generalize fixv (a3 &&& c3) (bh i) z = y1 at *
          generalize fixv (b3 &&& d3) (bl i) z = y2 at *
          generalize c3 ||| bh i = x3 at *
          generalize d3 ||| bl i = x4 at *
          generalize putq left f i (!z) = px at *
          generalize putq left f i z = pl at *
          have HE3 := hide_ e3
          obtain ⟨o0, o1, o2, o3, -⟩ := HC.out.quad e2
          have hn0 := HN.out.lt
          have hga := HA.out.lt
          have hgb := HC.out.lt
          clear e2 f2 e3 f3 h1 h2 h3 h4 i1 i2 HE hi Hon
          unfold td at q1 q2 q3
          go_upto_region 10 with (first | (go_at_call 52; refine (q1.out _).mono ?_; rintro e w5 ⟨rfl, b5⟩; have Z5 : Hid (AB (w5.alloc (.cells (tdc z24q).toArray 28)) w5.heap.size 28 (tdc z24q)) := hide_ (by exact AB.at0 w5 28 (tdc z24q)); have hs5 := b5.size; have N5 := hide_ (((HN.out.later b5).alloc (.cells (tdc z24q).toArray 28)).row_far (f := w5.heap.size) (tdc left).toArray (by omega)); have P5 := hide_ (Z5.out.row (cs' := tdc left)); obtain ⟨s0, s1, s2, s3, -⟩ := N5.out.quad HE3.out) | (refine wpList_loadA Try.underlying28 rfl (.tmp 4) rfl n0 (by simp [Act.eval, Act.put]) (tdc left) (szC HIl.out) (HN.out.later b5) ?_) | (refine wpList_storeA rfl (.tmp 9) (.tmp 32) rfl w5.heap.size (by simp [Act.eval, Act.put]) (tdc z24q) (tdc left) (by rw [tdc_length, tdc_length, HIl.out, z24q_len]) (szC HIl.out) (tdc_one _) (by simp [Act.eval, Act.put]) Z5.out ?_) | (go_at_call 53; refine (q2.out _).mono ?_; rintro e w6 ⟨rfl, b6⟩; obtain ⟨t0, t1, t2, t3, t4, t5, t6, t7⟩ := (P5.out.later b6).quad HE3.out))
          have k6 : Below wr.heap.size wr ((w5.alloc (.cells (tdc z24q).toArray 28)).setRow w5.heap.size (tdc left).toArray) := (b5.alloc b5.size (.cells (tdc z24q).toArray 28)).trans (below_row _ w5.heap.size _ _ hs5)
          have k7 := k6.trans (b6.mono k6.size)
          have k8 := below_fillq k7 (g := w5.heap.size) hs5 (f * 4) (f * 4 + 1) (f * 4 + 2) (f * 4 + 3) (.int .u64 (x1 : Int)) (.int .u64 (x2 : Int)) (.int .u64 (x3 : Int)) (.int .u64 (x4 : Int))
          have X8 : Hid (AB ((((w6.setCell ⟨w5.heap.size, f * 4, none⟩ (.int .u64 (x1 : Int))).setCell ⟨w5.heap.size, f * 4 + 1, none⟩ (.int .u64 (x2 : Int))).setCell ⟨w5.heap.size, f * 4 + 2, none⟩ (.int .u64 (x3 : Int))).setCell ⟨w5.heap.size, f * 4 + 3, none⟩ (.int .u64 (x4 : Int))) w5.heap.size 28 (tdc px)) := hide_ (by rw [HX.out]; exact (P5.out.later b6).setq f x1 x2 x3 x4)
          clear k6 k7 Z5 N5 P5 s0 s1 s2 s3 t0 t1 t2 t3 t4 t5 t6 t7 o0 o1 o2 o3 hcell q1 q2 b6
          generalize ((((w6.setCell ⟨w5.heap.size, f * 4, none⟩ (.int .u64 (x1 : Int))).setCell ⟨w5.heap.size, f * 4 + 1, none⟩ (.int .u64 (x2 : Int))).setCell ⟨w5.heap.size, f * 4 + 2, none⟩ (.int .u64 (x3 : Int))).setCell ⟨w5.heap.size, f * 4 + 3, none⟩ (.int .u64 (x4 : Int))) = W1 at *
          generalize w5.heap.size = m at *
          have J8 := HJg.out _ _ _ _ HJJ.out k8
          have S8 : Hid (Grow S wr W1 n0 ∧ R ga ∧ R gb) := hide_ ⟨.inl HS.out.1, HS.out.2.1, HS.out.2.2⟩
          have O8 : Hid (∀ g', (Value.slice (some ⟨g, 0, none⟩) nn cap).ownBlock = some g' → Grow S wr W1 g') := hide_ (fun g' hg => .inl (HOS.out g' hg))
          have N8 := hide_ (HN.out.later k8)
          have A8 := hide_ (HA.out.later k8)
          have C8 := hide_ (HC.out.later k8)
          have HO8 := hide_ (ownsRow_later HO.out k8)
          obtain ⟨fn, tmps, assign, body, hy, hR⟩ := HY.out _ pre px W1 (pre_snoc HE1.out) J8
          clear J8 HS HOS HN HA HC HO HJJ k8
          generalize Grow S wr W1 = S8' at *
          refine (wpIn_wide (n := 0)).1 (wpIn_region_lit ?_)
          gi_wp2_with (refine wpListIn_loadA Try.underlying28 rfl (.tmp 9) rfl m (by simp [Act.eval, Act.put]) (tdc px) (szC HP2.out) X8.out ?_)
          refine ⟨rfl, hR.mono ?_⟩
          clear hy hR
          rintro e W3 (⟨rfl, J9, kp⟩ | ⟨rfl, J9, kp⟩)
          · have N9 := hide_ (kp.ab (.inr S8.out.1) N8.out)
            have A9 := hide_ (kp.ab (.inl S8.out.2.1) A8.out)
            have C9 := hide_ (kp.ab (.inl S8.out.2.2) C8.out)
            have HO9 := hide_ (kp.own (fun g hg => .inr (O8.out g hg)) HO8.out)
            have J9 := hide_ J9
            clear N8 A8 C8 HO8 kp X8
            obtain ⟨s0, s1, s2, s3, -⟩ := N9.out.quad HE3.out
            gi_wp2_with fail
            go_wp2_with (first | go_step3 | (go_at_call 53; refine (q3.out _).mono ?_; rintro e w7 ⟨rfl, b7⟩; obtain ⟨t0, t1, t2, t3, t4, t5, t6, t7⟩ := (N9.out.later b7).quad HE3.out))
            go_roundw
            case rel => exact ⟨j + 1, S8', pre ++ [px], pl, by omega, by go_num, hide_ (by rw [← HE1.out]; simp), hide_ (own_set4 (ownsRow_later HO9.out b7) (own_ne (N9.out.later b7) (ownsRow_later HO9.out b7) (by decide)) _ _ _ _ _ _ _ _), O8, S8, HP1, hide_ (by rw [HXL.out]; exact (N9.out.later b7).setq f y1 y2 x3 x4), hide_ (((((A9.out.later b7).far _ (by omega)).far _ (by omega)).far _ (by omega)).far _ (by omega)), hide_ (((((C9.out.later b7).far _ (by omega)).far _ (by omega)).far _ (by omega)).far _ (by omega)), hide_ (HJ.out _ _ _ _ J9.out ((((((Out.of_below b7).trans (Out.setCell (p := ⟨n0, f * 4, none⟩) S8.out.1 _)).trans (Out.setCell (p := ⟨n0, f * 4 + 1, none⟩) S8.out.1 _)).trans (Out.setCell (p := ⟨n0, f * 4 + 2, none⟩) S8.out.1 _)).trans (Out.setCell (p := ⟨n0, f * 4 + 3, none⟩) S8.out.1 _))))⟩
            case measure => simp [intOf]; omega
          · have J9 := hide_ J9
            have HF := hide_ (pre_snoc HE1.out)
            gi_wp2_with fail
            go_wp2_with go_step3
            rw [Exit.noGoto_normal]
            go_end0
            exact ⟨⟨_, rfl⟩, .inr ⟨S8', pre ++ [px], HF.out, J9.out⟩⟩
        · have hjn' : ¬ (j : Int) < (nn : Int) := by omega
          have e : j = nn := by omega
          subst e
          have HE1 : Hid (pre ++ fieldsP a b (List.range' (f + 1) (24 - (f + 1))) left = L) := hide_ (by have := HE.out; rw [← HNN.out, List.drop_length] at this; exact this)
          go_wp2_with fail
          go_roundw
          case rel => exact ⟨f + 1, S, pre, left, by omega, by go_num, HE1, HS, HI, HN, HA, HC, HJJ⟩
          case measure => simp [intOf]; omega
    · have hlt' : ¬ (f : Int) < 24 := by omega
      have e : f = 24 := by omega
      subst e
      have HF : Hid (J S L wr) := hide_ (by have e : pre = L := (by have := HE.out; simpa [fieldsP] using this); rw [← e]; exact HJJ.out)
      go_wp2_with go_step3
      go_end0
      exact ⟨⟨_, rfl⟩, .inl ⟨S, HF.out⟩⟩

set_option maxRecDepth 100000 in
set_option maxHeartbeats 2000000 in
theorem parts1_seq (a : List Q4) (ha : isC a) (ga : Nat) (w : World) (R : Nat → Prop) (hA : AB w ga 28 (tdc a)) :
    SeqX Try.prog 49 #[.pointer (some ⟨ga, 0, none⟩)] (fun x => #[cv x]) [cleanC a] R w := by
  intro l J Jx W hW hJ hJx hJg hY h0
  have HJ := hide_ hJ
  have HY := hide_ hY
  have q0 := hide_ (fun w => cclean_any a ha w)
  have hla := hide_ ha.1
  have A0 := hide_ (hA.later hW)
  have H0 := hide_ h0
  generalize cleanC a = left0 at *
  clear hY hJ hJx hJg ha hA hW h0
  unfold cv at *
  show Calls Try.prog 49 #[.func (.yield l) #[] #[], .pointer (some ⟨ga, 0, none⟩)] W _
  refine (callsIn_wide (n := 0)).1 ?_
  refine callsIn_of_wp Try.func49 rfl trivial ?_ rfl
  simp only [Try.ntmps49, List.size_toArray, List.length_cons, List.length_nil, Nat.reduceAdd, Nat.reduceSub, Array.replicate_succ, Array.replicate_zero, List.push_toArray, List.append_toArray, List.nil_append, List.cons_append]
  gi_wp2_with (first | (refine wpListIn_loadA Try.underlying28 rfl (.tmp 1) rfl ga (by simp [Act.eval, Act.put]) (tdc a) (szC hla.out) A0.out ?_) | (refine ⟨trivial, rfl, ?_⟩; gi_at_call 48; refine (callsIn_wide.2 (q0.out _)).mono ?_; rintro e w1 ⟨rfl, b1⟩; obtain ⟨fn, tmps, assign, body, hy, hR⟩ := HY.out (fun _ => False) [] left0 w1 (List.prefix_refl _) (HJ.out _ _ _ _ H0.out (Out.of_below b1))))
  refine ⟨rfl, hR.mono ?_⟩
  clear hy hR
  rintro e W3 (⟨rfl, J9, kp⟩ | ⟨rfl, J9, kp⟩)
  · have J9 := hide_ J9
    gi_wp2_with fail
    go_end0
    exact ⟨⟨_, rfl⟩, .inl ⟨_, J9.out⟩⟩
  · have J9 := hide_ J9
    gi_wp2_with fail
    go_end0
    exact ⟨⟨_, rfl⟩, .inr ⟨_, [left0], List.prefix_refl _, J9.out⟩⟩

set_option maxRecDepth 100000 in
set_option maxHeartbeats 2000000 in
theorem parts_any (a b : List Q4) (ha : isC a) (hb : isC b) (w : World) :
    Calls Try.prog 34 #[cv a, cv b] w fun e w' => ∃ v, e = .returned v ∧ IsSeq Try.prog v (fun x => #[cv x]) (partsC a b) (fun k => w.heap.size ≤ k ∧ k < w'.heap.size) w' ∧ Below w.heap.size w w' := by
  have q0 := hide_ (fun w => cmeet_any a b ha hb w)
  have hla := hide_ ha.1
  have hlb := hide_ hb.1
  have hlM := hide_ (meetC_isC a b ha hb).1
  have A0 := hide_ ((AB.at0 w 28 (tdc a)).alloc (.cells (tdc b).toArray 28))
  have C0 := hide_ (AB.at1 w (.cells (tdc a).toArray 28) 28 (tdc b))
  have B0 := hide_ (below2 w (.cells (tdc a).toArray 28) (.cells (tdc b).toArray 28))
  have HP1 := hide_ (fun (W : World) (R : Nat → Prop) (h : AB W w.heap.size 28 (tdc a)) => parts1_seq a ha w.heap.size W R h)
  have HP2 := hide_ (fun (W : World) (R : Nat → Prop) (h1 : R w.heap.size) (h2 : R (w.heap.size + 1)) (h : AB W w.heap.size 28 (tdc a)) (h' : AB W (w.heap.size + 1) 28 (tdc b)) => parts2_seq a b ha hb w.heap.size (w.heap.size + 1) W R h1 h2 h h')
  have K1 := hide_ (fun h : okC a b = true => partsC_ok h)
  have K0 := hide_ (fun h : okC a b = false => partsC_no h)
  generalize meetC a b = M at *
  generalize partsC a b = L at *
  cases hok : okC a b
  all_goals
    rw [hok] at q0
    unfold cv at *
    obtain ⟨hz0, -⟩ := zero_of_info zC'
    go_enter Try.func34, Try.ntmps34
    go_wp2_with (first | (refine wpList_loadA Try.underlying28 rfl (.tmp 2) rfl w.heap.size (by simp [Act.eval, Act.put]) (tdc a) (szC hla.out) A0.out ?_) | (refine wpList_loadA Try.underlying28 rfl (.tmp 3) rfl (w.heap.size + 1) (by simp [Act.eval, Act.put]) (tdc b) (szC hlb.out) C0.out ?_) | (go_at_call 23; refine (q0.out _).mono ?_; rintro e w1 ⟨rfl, b1⟩; have Z1 : Hid (AB (w1.alloc (.cells (tdc z24q).toArray 28)) w1.heap.size 28 (tdc z24q)) := hide_ (by exact AB.at0 w1 28 (tdc z24q))) | (refine wpList_storeA rfl (.tmp 5) (.tmp 11) rfl w1.heap.size (by simp [Act.eval, Act.put]) (tdc z24q) (tdc M) (by rw [tdc_length, tdc_length, hlM.out, z24q_len]) (szC hlM.out) (tdc_one _) (by simp [Act.eval, Act.put]) Z1.out ?_))
    go_ret
    have hn : w.heap.size + 1 < w1.heap.size := (C0.out.later b1).lt
    have A1 := (((A0.out.later b1).alloc (.cells (tdc z24q).toArray 28)).row_far (f := w1.heap.size) (tdc M).toArray (by omega))
    have C1 := (((C0.out.later b1).alloc (.cells (tdc z24q).toArray 28)).row_far (f := w1.heap.size) (tdc M).toArray (by omega))
    have bb := B0.out.trans (b1.mono B0.out.size)
    have bz : Below w.heap.size w ((w1.alloc (.cells (tdc z24q).toArray 28)).setRow w1.heap.size (tdc M).toArray) := (bb.alloc bb.size (.cells (tdc z24q).toArray 28)).trans (below_row _ w1.heap.size _ _ bb.size)
    refine ⟨_, rfl, ?_, bz⟩
  · exact ⟨_, _, rfl, enters_of Try.func49 (by kernel_rfl) rfl, by rw [K0.out hok]; exact HP1.out _ _ A1⟩
  · exact ⟨_, _, rfl, enters_of Try.func50 (by kernel_rfl) rfl, by rw [K1.out hok]; exact HP2.out _ _ ⟨Nat.le_refl _, by have := bz.size; have := A1.lt; omega⟩ ⟨by omega, by have := C1.lt; omega⟩ A1 C1⟩

end Go.Proofs.Ytbdbehdgpmfelaa
