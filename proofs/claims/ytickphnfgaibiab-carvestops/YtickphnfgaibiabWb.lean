import Derived.Test.YtickphnfgaibiabVk
namespace Go.Proofs.Ytickphnfgaibiab
open Go Go.RowKit
set_option linter.unusedVariables false
set_option linter.unusedSimpArgs false

def noPan (Q : Exit → Act → World → Prop) : Exit → Act → World → Prop
  | .panic _, _, _ => False
  | e, a, w => Q e a w
theorem wp_noPan {P : Program} {c : Code} {Q : Exit → Act → World → Prop} {a : Act} {w : World} (h : c.wp P (noPan Q) a w) : c.wp P Q a w :=
  wp_mono h (fun e a w k => by cases e <;> first | exact k | exact k.elim)
theorem sliceU : Try.prog.underlying 33 = some (.slice (Try.prog.elem 33)) := by kernel_rfl
theorem sliceZ (w : World) : (sizeOf (Try.prog.elem 33)).run Try.prog w = .ok 96 w := by
  obtain ⟨i0, hi0, hz0, hz1, hz2⟩ := info_parts infoC
  have e : Try.prog.elem 33 = 28 := by kernel_rfl
  simp [sizeOf, typeInfo, e, hi0, hz1]
theorem slice_cubes (w : World) (ad : Option Addr) (n cap : Nat) (h : Int) (h0 : 0 ≤ h) (h1 : h ≤ (cap : Int)) : (Instr.slice 33 (.slice ad n cap) none (some (.int .i64 h)) none).run Try.prog w = .ok (.slice ad h.toNat cap) w := by
  rw [run_slice_h w 33 ad n cap sliceU .i64 h h0 h1, sliceZ]
  simp [sliced]
  cases ad with
  | none => simp
  | some a => simp [Addr.add]
theorem sliceAt_cubes (w : World) (ad : Option Addr) (n cap : Nat) (h : Int) (h0 : 0 ≤ h) (h1 : h ≤ (cap : Int)) : (Instr.sliceAt 33 (.slice ad n cap) none (some (.int .i64 h)) none).run Try.prog w = .ok (.slice ad h.toNat cap) w := by
  rw [run_sliceAt_slice w 33 _ _ _ _ sliceU]; exact slice_cubes w ad n cap h h0 h1
theorem cubes_take {w : World} {ad : Option Addr} {n cap : Nat} {L : List (List Q4)} (h : CubesAt w (.slice ad n cap) L) (m : Nat) : CubesAt w (.slice ad (L.take m).length cap) (L.take m) := by
  obtain ⟨⟨h0, a', cap', e, h1, h2, h3, h4⟩, hC⟩ := h
  cases e
  have hlen : ∀ K : List (List Q4), (∀ x ∈ K, isC x) → (K.flatMap tdc).length = K.length * 96 := fun K => by
    induction K with
    | nil => intro _; rfl
    | cons y K ih =>
      intro hK
      rw [List.flatMap_cons, List.length_append, ih (fun x hx => hK x (List.mem_cons_of_mem _ hx)), lenC (hK y List.mem_cons_self), List.length_cons]
      omega
  have hCt : ∀ x ∈ L.take m, isC x := fun x hx => hC x (List.mem_of_mem_take hx)
  refine ⟨⟨hlen _ hCt, ad, cap, rfl, Nat.le_trans (List.length_take_le' ..) h1, h2, h3, fun a ha j u hu => h4 a ha j u ?_⟩, hCt⟩
  have e : L.flatMap tdc = (L.take m).flatMap tdc ++ (L.drop m).flatMap tdc := by rw [← List.flatMap_append, List.take_append_drop]
  rw [e, List.getElem?_append_left (List.getElem?_eq_some_iff.1 hu).1]
  exact hu

set_option maxRecDepth 100000 in
set_option maxHeartbeats 8000000 in
theorem carveStops_walk (a b : List Q4) (k : Nat) (ha : isC a) (hb : isC b) (hk : k < 256) (w : World) :
    Calls Try.prog 3 #[cv a, cv b, .int .u8 (k : Int)] w fun e w' => e = .returned (.bool true) ∧ Below w.heap.size w w' := by
  have q0 := hide_ (fun w => parts_any a b ha hb w)
  have q1 := hide_ (fun w => clist_any a b ha hb w)
  have hla := hide_ ha.1
  have hlb := hide_ hb.1
  have hL := hide_ (partsC_isC a b ha)
  have hn := partsC_len a b
  have hen := fun gf lb w => eq_nilF gf lb w
  have A0 := hide_ (((AB.at0 w 28 (tdc a)).alloc (.cells (tdc b).toArray 28)).alloc (.cells #[.int .u8 (k : Int)] 5))
  have C0 := hide_ ((AB.at1 w (.cells (tdc a).toArray 28) 28 (tdc b)).alloc (.cells #[.int .u8 (k : Int)] 5))
  have K0 : Hid (AB (((w.alloc (.cells (tdc a).toArray 28)).alloc (.cells (tdc b).toArray 28)).alloc (.cells #[.int .u8 (k : Int)] 5)) (w.heap.size + 1 + 1) 5 [.int .u8 (k : Int)]) := hide_ (AB.at2 w (.cells (tdc a).toArray 28) (.cells (tdc b).toArray 28) 5 [.int .u8 (k : Int)])
  have B0 := hide_ (below3 w (.cells (tdc a).toArray 28) (.cells (tdc b).toArray 28) (.cells #[.int .u8 (k : Int)] 5))
  generalize partsC a b = L at *
  unfold cv at *
  clear ha hb
  refine calls_of_wp_marks Try.func3 rfl ?_
  simp only [Try.ntmps3, List.size_toArray, List.length_cons, List.length_nil, Nat.reduceAdd, Nat.reduceSub, Array.replicate_succ, Array.replicate_zero, List.push_toArray, List.append_toArray, List.nil_append, List.cons_append]
  go_upto_region 3 with (first | (refine wpList_loadA Try.underlying28 rfl (.tmp 3) rfl w.heap.size (by simp [Act.eval, Act.put]) (tdc a) (szC hla.out) (A0.out.later b1) ?_) | (refine wpList_loadA Try.underlying28 rfl (.tmp 4) rfl (w.heap.size + 1) (by simp [Act.eval, Act.put]) (tdc b) (szC hlb.out) (C0.out.later b1) ?_) | (go_at_call 8; refine (awake7_any _).mono ?_; rintro e w1 ⟨rfl, b1⟩) | (go_at_call 9; refine (q0.out _).mono ?_; rintro e w2 ⟨v, rfl, ⟨gf, lb, rfl, -⟩, b2⟩))
  have b12 := b1.trans (b2.mono b1.size)
  have A2 := hide_ (A0.out.later b12)
  have C2 := hide_ (C0.out.later b12)
  have K2 := hide_ (K0.out.later b12)
  have B2 := hide_ (B0.out.trans (b12.mono B0.out.size))
  clear A0 C0 K0 B0 b1 b2 b12
  have hw2 : w.heap.size + 1 + 1 < w2.heap.size := K2.out.lt
  have N2 := hide_ (Boxed.new w2 33 (.slice none 0 0))
  have A3 := hide_ (A2.out.alloc (.cells #[.slice none 0 0] 33))
  have C3 := hide_ (C2.out.alloc (.cells #[.slice none 0 0] 33))
  have K3 := hide_ (K2.out.alloc (.cells #[.slice none 0 0] 33))
  have B3 := hide_ (B2.out.alloc B2.out.size (.cells #[.slice none 0 0] 33))
  clear A2 C2 K2 B2
  obtain ⟨Bx, hBx⟩ : ∃ Bx, w2.heap.size = Bx := ⟨_, rfl⟩
  rw [hBx] at hw2
  have hsz3 : (w2.alloc (.cells #[.slice none 0 0] 33)).heap.size = Bx + 1 := by simp [hBx]
  go_upto_region 5 with (first | (refine wpList_loadA Try.underlying28 rfl (.tmp 3) rfl w.heap.size (by simp [Act.eval, Act.put]) (tdc a) (szC hla.out) (A3.out) ?_) | (refine wpList_loadA Try.underlying28 rfl (.tmp 4) rfl (w.heap.size + 1) (by simp [Act.eval, Act.put]) (tdc b) (szC hlb.out) (C3.out) ?_) | (go_at_call 9; refine (q0.out _).mono ?_; rintro e w3 ⟨v, rfl, hs, b3⟩; have hs := hide_ hs; have b3 := hide_ b3))
  have A4 := hide_ (A3.out.later b3.out)
  have C4 := hide_ (C3.out.later b3.out)
  have K4 := hide_ (K3.out.later b3.out)
  have B4 := hide_ (B3.out.trans (b3.out.mono B3.out.size))
  have hN4 : Boxed w3 Bx 33 (.slice none 0 0) := by rw [← hBx]; exact (b3.out.block _ N2.out.lt).trans N2.out
  have hs1 := hs.out
  rw [hsz3] at hs1
  obtain ⟨R, hRdef⟩ : ∃ R : Nat → Prop, (fun k => Bx + 1 ≤ k ∧ k < w3.heap.size) = R := ⟨_, rfl⟩
  have hR : ∀ k, R k → Bx < k ∧ k < w3.heap.size := fun k hk => by rw [← hRdef] at hk; exact hk
  rw [hRdef] at hs1
  have hBx3 : Bx < w3.heap.size := hN4.lt
  clear hs hRdef A3 C3 K3 B3 N2 b3 hsz3
  have hk0 : (0 : Int) ≤ (k : Int) := by omega
  have hk1 : (k : Int) < 256 := by omega
  refine wp_rangeX (α := List Q4) (v := v) (by rfl) hs1 (fun k hk => (hR k hk).2) (Below.refl _ _) (fun _ => rfl)
    (fun S pre W => RowI Bx Bx w3 R S pre W ∧ w3.heap.size ≤ W.heap.size ∧ pre.length ≤ k % 8) (fun c S pre W => c = .exit 0 ∧ RowI Bx Bx w3 R S pre W ∧ pre.length = k % 8 + 1)
    (fun S x a' W => ∃ Bv, AB W Bv 28 (tdc x) ∧ ¬ S Bv ∧ a' = { tmps := #[.agg (tdc a).toArray, .agg (tdc b).toArray, .int .u8 (k : Int), .pointer (some ⟨w.heap.size, 0, none⟩), .pointer (some ⟨w.heap.size + 1, 0, none⟩), .pointer (some ⟨w.heap.size + 1 + 1, 0, none⟩), .bool false, .pointer (some ⟨Bx, 0, none⟩), .pointer (some ⟨Bv, 0, none⟩), undef, .bool true, .bool false, .bool false, .agg (tdc a).toArray, .agg (tdc b).toArray, .func (.func gf) #[] lb, .bool false, .bool false, .agg (tdc a).toArray, .agg (tdc b).toArray, v, .agg (tdc x).toArray, undef, undef, undef, undef, undef, undef, undef, undef, undef, undef, undef, undef, undef, undef, undef, undef, undef, undef, undef, undef, undef, undef, undef, undef], defers := [] })
    (fun S pre A A' h ho => ⟨h.1.out ho (Nat.le_refl _) (Nat.le_of_lt hBx3), Nat.le_trans h.2.1 ho.size, h.2.2⟩) (fun S pre A A' h ho => ⟨h.1.grow ho (Nat.le_refl _) (Nat.le_of_lt hBx3), Nat.le_trans h.2.1 ho.size, h.2.2⟩) (fun c S pre A A' h ho => ⟨h.1, h.2.1.out ho (Nat.le_refl _) (Nat.le_of_lt hBx3), h.2.2⟩)
    (fun S x a' A A' ⟨Bv, h1, h2, h3⟩ ho => ⟨Bv, (ho.block Bv h1.lt h2).trans h1, h2, h3⟩)
    ?start ?assign ?body ?done ?stop
  case start =>
    intro W hb hsz
    refine ⟨⟨fun k hk => ?_, ⟨.slice none 0 0, (hb.block _ hN4.lt).trans hN4, World.ownsRow_nil _ _ _ _, fun g e => by cases e⟩, hb.mono (Nat.le_of_lt hBx3)⟩, hb.size, Nat.zero_le _⟩
    rcases hk with hk | hk
    · exact hk.elim
    · omega
  case assign =>
    intro l S pre x W hpre hi
    have hx := hL.out x (pre_mem hpre).1
    have HZ : Hid (AB (W.alloc (.cells Try.zeroCells28 28)) W.heap.size 28 (tdc z24q)) := hide_ (by rw [zcC]; exact AB.at0 W 28 (tdc z24q))
    have hlx := hide_ hx.1
    have HI := hide_ hi
    clear hi hx hen
    refine wpIn_region_of noOut rfl ?_
    go_wp2_with (refine wpList_storeA rfl (.tmp 8) (.tmp 21) rfl W.heap.size (by simp [Act.eval, Act.put]) (tdc z24q) (tdc x) (by rw [tdc_length, tdc_length, hlx.out, z24q_len]) (szC hlx.out) (tdc_one _) (by simp [Act.eval, Act.put]) HZ.out ?_)
    have hbW : Below W.heap.size W ((W.alloc (.cells Try.zeroCells28 28)).setRow W.heap.size (tdc x).toArray) := (below1 W (.cells Try.zeroCells28 28)).trans (below_row _ W.heap.size _ _ (Nat.le_refl _))
    refine ⟨Keep.of_below hbW (fun k hk => ?_), ⟨HI.out.1.out (Out.of_below hbW) (Nat.le_refl _) (Nat.le_of_lt hBx3), Nat.le_trans HI.out.2.1 hbW.size, HI.out.2.2⟩, W.heap.size, HZ.out.row, fun h => ?_, rfl⟩
    · rcases hk with hk | hk
      · exact Nat.lt_of_lt_of_le (hR k hk).2 HI.out.2.1
      · exact (HI.out.1.1 k hk).2
    · have := (HI.out.1.1 _ h).2; omega
  case body =>
    rintro l S pre x a' W hpre ⟨⟨hS, ⟨u, hu, hr, hg⟩, hb⟩, hsW, hlk⟩ ⟨Bv, hBv, hnS, rfl⟩
    have hx := hL.out x (pre_mem hpre).1
    have hlen := (pre_mem hpre).2
    have hlx := hide_ hx.1
    have hc0 := hu.cell
    obtain ⟨i0, hi0, hz0, hz1, hz2⟩ := info_parts infoC
    have HI : Hid (Try.prog.info? 28 = some i0 ∧ i0.zero = some (.agg (tdc z24q).toArray) ∧ i0.size = 96 ∧ i0.bytes = 768) := hide_ ⟨hi0, hz0, hz1, hz2⟩
    have HSS := hide_ hS
    have HU := hide_ hu
    have HR := hide_ hr
    have HG := hide_ hg
    have HB := hide_ hb
    have HBv := hide_ hBv
    have HRB : Hid (∀ k, R k → k < W.heap.size ∧ k ≠ Bx) := hide_ (fun k hk => by have := hR k hk; omega)
    clear hS hu hr hg hb hBv hi0 hz0 hz1 hz2 hx hen
    refine wpIn_block ?_
    apply wpIn_seq_k
    intro K1 hK1
    refine wpIn_region_of (noOutT (noOutB noOutP)) rfl ?_
    go_wp2_with (first | (refine wpList_loadA Try.underlying28 rfl (.tmp 8) rfl Bv (by simp [Act.eval, Act.put]) (tdc x) (szC hlx.out) HBv.out ?_) | (refine wpList_build1 rfl 33 28 (.tmp 23) rfl (tdc x) (.agg (tdc z24q).toArray) 96 768 (by simp [Act.eval, Act.put]) Try.underlying33 infoC (by simp [Value.cells, szC0]) (by rw [tdc_length, hlx.out]) (by decide) (by decide) ?_) | (at_builtin; refine wpList_append_own_at _ rfl (.tmp 22) (.tmp 24) 33 rfl (Bx + 1) 28 i0 (.agg (tdc z24q).toArray) 96 768 Try.underlying33 HI.out.1 HI.out.2.1 HI.out.2.2.1 HI.out.2.2.2 (by simp [Value.cells, szC0]) (by decide) u pre.length (pre.flatMap tdc) (by simp [Act.eval, Act.put]) (HR.out.alloc _) ⟨W.heap.size, 0, none⟩ 1 1 (tdc x) (by simp [Act.eval, Act.put]) (by rw [tdc_length, hlx.out]) (news_alloc _ _ _) (tdc_one _) (by unfold maxLen; omega) (by omega) (by have := HU.out.lt; simp; omega) ?_; intro v1 w9 ho1 hgrow hnil hat; obtain ⟨g', cap', rfl⟩ := ownsRow_succ ho1; obtain ⟨hv1, hkeep, hrow⟩ := RowI.push HSS.out HU.out HR.out HG.out HB.out (Nat.le_refl _) (Nat.le_of_lt hBx3) HRB.out ho1 hgrow hat; have hc1 := hv1.cell; have hf1 := hv1.frozen; have hv1 := hide_ hv1; have hkeep := hide_ hkeep; have hrow := hide_ hrow; clear ho1 hgrow hnil hat))
    have hkc : Hid ((w9.setCell ⟨Bx, 0, none⟩ (.slice (some ⟨g', 0, none⟩) (pre.length + 1) cap')).cell? ⟨w.heap.size + 1 + 1, 0, none⟩ = some (.int .u8 (k : Int))) := hide_ ((K4.out.below hrow.out.2.2 hw2).cell (j := 0) rfl).1
    have hbc : Hid ((w9.setCell ⟨Bx, 0, none⟩ (.slice (some ⟨g', 0, none⟩) (pre.length + 1) cap')).cell? ⟨Bx, 0, none⟩ = some (.slice (some ⟨g', 0, none⟩) (pre.length + 1) cap')) := hide_ (hv1.out.set _).cell
    generalize w9.setCell ⟨Bx, 0, none⟩ (.slice (some ⟨g', 0, none⟩) (pre.length + 1) cap') = W9 at *
    have c1 := hkc.out
    have c2 := hbc.out
    clear hc0 hc1 hf1 hv1 hkc hbc
    apply wpIn_seq_k
    intro K2 hK2
    refine wpIn_region_of (noOutT (noOutB noOutP)) rfl ?_
    go_wp2_with fail
    have hkn : ((k % 8 : Nat) : Int) = (k : Int) % 8 := by omega
    refine wpIn_cond_split rfl (fun h => ?_) (fun h => ?_)
    · have h := of_decide_eq_true h
      refine wpIn_exit ?_
      unfold Exit.inBlock
      dsimp only
      rw [if_neg (by decide)]
      exact ⟨hkeep.out, rfl, hrow.out, by simp; omega⟩
    · have h := of_decide_eq_false h
      refine wpIn_skip ?_
      exact ⟨hkeep.out, hrow.out, Nat.le_trans hsW hkeep.out.size, by simp; omega⟩
  case done =>
    rintro D S W hD hSD ⟨⟨hS, ⟨u, hu, hr, hg⟩, hb⟩, hsW, hlk⟩ hK
    obtain ⟨P, hP0⟩ : ∃ P, L = P := ⟨_, rfl⟩
    have hP : P = L.take (k % 8 + 1) := by rw [← hP0, List.take_of_length_le (by omega)]
    have hr : W.ownsRow (Bx + 1) 28 96 u P.length (P.flatMap tdc) := hP0 ▸ hr
    clear hP0
    have hPm : ∀ x ∈ P, isC x := fun x hx => hL.out x (List.mem_of_mem_take (hP ▸ hx))
    have hU : CubesAt W u P := ⟨Cells.ofOwn hr, hPm⟩
    obtain ⟨adu, capu, rfl, -⟩ := hU.form
    have A5 := hide_ (A4.out.below hb (by omega))
    have C5 := hide_ (C4.out.below hb (by omega))
    have K5 := hide_ (K4.out.below hb hw2)
    have HK := hide_ hK
    have HU := hide_ hU
    have HX := hide_ hu
    have hDlt := (Array.getElem?_eq_some_iff.1 hK).1
    have hB5 : Hid (Below w.heap.size w W) := hide_ (B4.out.trans (hb.mono (by omega)))
    clear hK hU hu hr hg hS hb A4 C4 K4 B4 hs1 hN4
    go_upto_region 9 with (first | (refine wpList_loadA Try.underlying28 rfl (.tmp 3) rfl w.heap.size (by simp [Act.eval, Act.put]) (tdc a) (szC hla.out) (A5.out) ?_) | (refine wpList_loadA Try.underlying28 rfl (.tmp 4) rfl (w.heap.size + 1) (by simp [Act.eval, Act.put]) (tdc b) (szC hlb.out) (C5.out) ?_) | (go_at_call 10; refine (q1.out _).mono ?_; rintro e w5 ⟨u5, rfl, ho5, b5⟩; have h5 : CubesAt w5 u5 L := ⟨Cells.ofOwn ho5, hL.out⟩; obtain ⟨ad5, cap5, rfl, hc5, -⟩ := h5.form; have h5 := hide_ h5; clear ho5))
    have hsl := fun w => slice_cubes w ad5 L.length cap5 (min (L.length : Int) ((k : Int) % 8 + 1)) (by omega) (by omega)
    have hlenP : (min (L.length : Int) ((k : Int) % 8 + 1)).toNat = P.length := by rw [hP, List.length_take]; omega
    have hsa := fun w => sliceAt_cubes w ad5 L.length cap5 (min (L.length : Int) ((k : Int) % 8 + 1)) (by omega) (by omega)
    rw [hlenP] at hsl hsa
    have HT : Hid (CubesAt w5 (.slice ad5 P.length cap5) P) := hide_ (by have := cubes_take h5.out (k % 8 + 1); rw [← hP] at this; exact this)
    have c1 := cell_later b5 HX.out.cell
    have c2 := cell_later b5 (K5.out.cell (j := 0) rfl).1
    have HU5 := hide_ (HU.out.later b5)
    have HB5 := hide_ (hB5.out.trans (b5.mono hB5.out.size))
    have HK5 : Hid (w5.heap[D]? = some (.deferred (some []))) := hide_ ((b5.block D hDlt).trans HK.out)
    have hD5 : D < w5.heap.size := Nat.lt_of_lt_of_le hDlt b5.size
    have q6 : Hid (∀ w', Below w5.heap.size w5 w' → Calls Try.prog 11 #[.slice adu P.length capu, .slice ad5 P.length cap5] w' fun e w'' => e = .returned (.bool true) ∧ Below w'.heap.size w' w'') := hide_ (fun w' k' => cequal_same _ _ P _ (HU5.out.later k') (HT.out.later k'))
    clear HT HU5 HU HX K5 A5 C5 HK hB5 b5 h5 hP hPm hlenP
    have hwr : IntKind.i64.wrap ((k : Int) % 8 + 1) = (k : Int) % 8 + 1 := by rw [IntKind.wrap_i64]; omega
    have ht8 : (k : Int).tmod 8 = (k : Int) % 8 := Int.tmod_eq_emod_of_nonneg hk0
    have hw8 : IntKind.i64.wrap ((k : Int) % 8) = (k : Int) % 8 := by rw [IntKind.wrap_i64]; omega
    · skip
      refine wp_noPan ?_
      refine wp_region_held_drew (S := fun w' => w'.cell? ⟨Bx, 0, none⟩ = some (.slice adu P.length capu) ∧ w'.cell? ⟨w.heap.size + 1 + 1, 0, none⟩ = some (.int .u8 (k : Int)) ∧ Below w5.heap.size w5 w') (by kernel_rfl) (⟨c1, c2, (Below.refl _ _).drew⟩) (fun hHeld => ?_)
      refine takeR (i := 0) (v := ?_) rfl (by kernel_rfl) (by kernel_rfl) (by kernel_rfl) (some 35) rfl (Or.inl ⟨by rfl, ?_⟩) (fun _ _ _ h => h) (by assumption) ?_
      rotate_left
      · intro w hSw; (try dsimp only at hSw); go_simp; (try with_reducible rfl)
      simp only [Act.put, List.setIfInBounds_toArray, List.set_cons_zero, List.set_cons_succ]
      refine takeR (i := 1) (v := ?_) rfl (by kernel_rfl) (by kernel_rfl) (by kernel_rfl) (some 36) rfl (Or.inl ⟨by rfl, ?_⟩) (fun _ _ _ h => h) (by assumption) ?_
      rotate_left
      · intro w hSw; (try dsimp only at hSw); go_simp; (try with_reducible rfl)
      simp only [Act.put, List.setIfInBounds_toArray, List.set_cons_zero, List.set_cons_succ]
      refine takeR (i := 2) (v := ?_) rfl (by kernel_rfl) (by kernel_rfl) (by kernel_rfl) (some 37) rfl (Or.inl ⟨by rfl, ?_⟩) (fun _ _ _ h => h) (by assumption) ?_
      rotate_left
      · intro w hSw; (try dsimp only at hSw); go_simp; (try with_reducible rfl)
      simp only [Act.put, List.setIfInBounds_toArray, List.set_cons_zero, List.set_cons_succ]
      refine takeR (i := 3) (v := ?_) rfl (by kernel_rfl) (by kernel_rfl) (by kernel_rfl) (some 38) rfl (Or.inl ⟨by rfl, ?_⟩) (fun _ _ _ h => h) (by assumption) ?_
      rotate_left
      · intro w hSw; (try dsimp only at hSw); go_simp; (try with_reducible rfl)
      simp only [Act.put, List.setIfInBounds_toArray, List.set_cons_zero, List.set_cons_succ]
      refine takeR (i := 4) (v := ?_) rfl (by kernel_rfl) (by kernel_rfl) (by kernel_rfl) (some 39) rfl (Or.inl ⟨by rfl, ?_⟩) (fun _ _ _ h => h) (by assumption) ?_
      rotate_left
      · intro w hSw; (try dsimp only at hSw); go_simp; (try with_reducible rfl)
      simp only [Act.put, List.setIfInBounds_toArray, List.set_cons_zero, List.set_cons_succ]
      refine takeR (i := 5) (v := ?_) rfl (by kernel_rfl) (by kernel_rfl) (by kernel_rfl) (some 40) rfl (Or.inl ⟨by rfl, ?_⟩) (fun _ _ _ h => h) (by assumption) ?_
      rotate_left
      · intro w hSw; (try dsimp only at hSw); go_simp; (try with_reducible rfl)
      simp only [Act.put, List.setIfInBounds_toArray, List.set_cons_zero, List.set_cons_succ]
      refine takeR (i := 6) (v := ?_) rfl (by kernel_rfl) (by kernel_rfl) (by kernel_rfl) (some 41) rfl (Or.inl ⟨by rfl, ?_⟩) (fun _ _ _ h => h) (by assumption) ?_
      rotate_left
      · intro w hSw; (try dsimp only at hSw); go_simp; (try with_reducible rfl)
      simp only [Act.put, List.setIfInBounds_toArray, List.set_cons_zero, List.set_cons_succ]
      refine takeR (i := 7) (v := ?_) rfl (by kernel_rfl) (by kernel_rfl) (by kernel_rfl) (some 42) rfl (Or.inl ⟨by rfl, ?_⟩) (fun _ _ _ h => h) (by assumption) ?_
      rotate_left
      · intro w hSw; (try dsimp only at hSw); go_simp; (try with_reducible rfl)
      simp only [Act.put, List.setIfInBounds_toArray, List.set_cons_zero, List.set_cons_succ]
      refine takeR (i := 8) (v := ?_) rfl (by kernel_rfl) (by kernel_rfl) (by kernel_rfl) (some 43) rfl (Or.inl ⟨by rfl, ?_⟩) (fun _ _ _ h => h) (by assumption) ?_
      rotate_left
      · intro w hSw; (try dsimp only at hSw); go_simp; (try with_reducible rfl)
      simp only [Act.put, List.setIfInBounds_toArray, List.set_cons_zero, List.set_cons_succ]
      refine takeR (i := 9) (v := ?_) rfl (by kernel_rfl) (by kernel_rfl) (by kernel_rfl) (some 44) rfl (Or.inl ⟨by rfl, ?_⟩) (fun _ _ _ h => h) (by assumption) ?_
      rotate_left
      · intro w hSw; (try dsimp only at hSw); go_simp; (try with_reducible rfl)
      simp only [Act.put, List.setIfInBounds_toArray, List.set_cons_zero, List.set_cons_succ]
      refine wpAnyH_ready (rs := [10]) (by kernel_rfl) (by simp) (AllReadyH.cons rfl (fun K hK => ?_) AllReadyH.nil)
      go_simp
      refine (q6.out _ hHeld.2.2).mono ?_
      rintro e w6 ⟨rfl, b6⟩
      refine hK.out _ _ (keepA2 b6 hHeld) (fun hHeld => ?_)
      clear hK K
      try simp only [Act.put, List.setIfInBounds_toArray, List.set_cons_zero, List.set_cons_succ]
      refine takeR (i := 11) (v := ?_) rfl (by kernel_rfl) (by kernel_rfl) (by kernel_rfl) (some 6) rfl (Or.inl ⟨by rfl, ?_⟩) (fun _ _ _ h => h) (by assumption) ?_
      rotate_left
      · intro w hSw; (try dsimp only at hSw); go_simp; (try with_reducible rfl)
      simp only [Act.put, List.setIfInBounds_toArray, List.set_cons_zero, List.set_cons_succ]
      refine wpAnyH_done (by kernel_rfl) ?_ _
      have k6 := hHeld.2.2
      clear hHeld
      simp only [noPan]
      go_wp2_with fail
      have HK6 : w6.heap[D]? = some (.deferred (some [])) := (k6.block D hD5).trans HK5.out
      refine marksR (marks_ret HK6 (results_tmp rfl _ _ _) ⟨rfl, ?_⟩)
      have hb6 := HB5.out.trans (k6.mono HB5.out.size)
      exact (Out.putObj (S := fun k => k = D) (.deferred none) rfl).below hb6 (Nat.le_refl _) (fun k hk => by subst hk; omega)
  case stop =>
    rintro D S c pre W hD hSD hpre ⟨rfl, ⟨hS, ⟨u, hu, hr, hg⟩, hb⟩, hlk⟩ hK
    obtain ⟨P, hP0⟩ : ∃ P, pre = P := ⟨_, rfl⟩
    have hP : P = L.take (k % 8 + 1) := by rw [← hP0, ← hlk]; exact (List.prefix_iff_eq_take.1 hpre)
    rw [hP0] at hr
    clear hP0 hlk hpre
    have hPm : ∀ x ∈ P, isC x := fun x hx => hL.out x (List.mem_of_mem_take (hP ▸ hx))
    have hU : CubesAt W u P := ⟨Cells.ofOwn hr, hPm⟩
    obtain ⟨adu, capu, rfl, -⟩ := hU.form
    have A5 := hide_ (A4.out.below hb (by omega))
    have C5 := hide_ (C4.out.below hb (by omega))
    have K5 := hide_ (K4.out.below hb hw2)
    have HK := hide_ hK
    have HU := hide_ hU
    have HX := hide_ hu
    have hDlt := (Array.getElem?_eq_some_iff.1 hK).1
    have hB5 : Hid (Below w.heap.size w W) := hide_ (B4.out.trans (hb.mono (by omega)))
    clear hK hU hu hr hg hS hb A4 C4 K4 B4 hs1 hN4
    go_upto_region 9 with (first | (refine wpList_loadA Try.underlying28 rfl (.tmp 3) rfl w.heap.size (by simp [Act.eval, Act.put]) (tdc a) (szC hla.out) (A5.out) ?_) | (refine wpList_loadA Try.underlying28 rfl (.tmp 4) rfl (w.heap.size + 1) (by simp [Act.eval, Act.put]) (tdc b) (szC hlb.out) (C5.out) ?_) | (go_at_call 10; refine (q1.out _).mono ?_; rintro e w5 ⟨u5, rfl, ho5, b5⟩; have h5 : CubesAt w5 u5 L := ⟨Cells.ofOwn ho5, hL.out⟩; obtain ⟨ad5, cap5, rfl, hc5, -⟩ := h5.form; have h5 := hide_ h5; clear ho5))
    have hsl := fun w => slice_cubes w ad5 L.length cap5 (min (L.length : Int) ((k : Int) % 8 + 1)) (by omega) (by omega)
    have hlenP : (min (L.length : Int) ((k : Int) % 8 + 1)).toNat = P.length := by rw [hP, List.length_take]; omega
    have hsa := fun w => sliceAt_cubes w ad5 L.length cap5 (min (L.length : Int) ((k : Int) % 8 + 1)) (by omega) (by omega)
    rw [hlenP] at hsl hsa
    have HT : Hid (CubesAt w5 (.slice ad5 P.length cap5) P) := hide_ (by have := cubes_take h5.out (k % 8 + 1); rw [← hP] at this; exact this)
    have c1 := cell_later b5 HX.out.cell
    have c2 := cell_later b5 (K5.out.cell (j := 0) rfl).1
    have HU5 := hide_ (HU.out.later b5)
    have HB5 := hide_ (hB5.out.trans (b5.mono hB5.out.size))
    have HK5 : Hid (w5.heap[D]? = some (.deferred (some []))) := hide_ ((b5.block D hDlt).trans HK.out)
    have hD5 : D < w5.heap.size := Nat.lt_of_lt_of_le hDlt b5.size
    have q6 : Hid (∀ w', Below w5.heap.size w5 w' → Calls Try.prog 11 #[.slice adu P.length capu, .slice ad5 P.length cap5] w' fun e w'' => e = .returned (.bool true) ∧ Below w'.heap.size w' w'') := hide_ (fun w' k' => cequal_same _ _ P _ (HU5.out.later k') (HT.out.later k'))
    clear HT HU5 HU HX K5 A5 C5 HK hB5 b5 h5 hP hPm hlenP
    have hwr : IntKind.i64.wrap ((k : Int) % 8 + 1) = (k : Int) % 8 + 1 := by rw [IntKind.wrap_i64]; omega
    have ht8 : (k : Int).tmod 8 = (k : Int) % 8 := Int.tmod_eq_emod_of_nonneg hk0
    have hw8 : IntKind.i64.wrap ((k : Int) % 8) = (k : Int) % 8 := by rw [IntKind.wrap_i64]; omega
    · skip
      refine wp_noPan ?_
      refine wp_region_held_drew (S := fun w' => w'.cell? ⟨Bx, 0, none⟩ = some (.slice adu P.length capu) ∧ w'.cell? ⟨w.heap.size + 1 + 1, 0, none⟩ = some (.int .u8 (k : Int)) ∧ Below w5.heap.size w5 w') (by kernel_rfl) (⟨c1, c2, (Below.refl _ _).drew⟩) (fun hHeld => ?_)
      refine takeR (i := 0) (v := ?_) rfl (by kernel_rfl) (by kernel_rfl) (by kernel_rfl) (some 35) rfl (Or.inl ⟨by rfl, ?_⟩) (fun _ _ _ h => h) (by assumption) ?_
      rotate_left
      · intro w hSw; (try dsimp only at hSw); go_simp; (try with_reducible rfl)
      simp only [Act.put, List.setIfInBounds_toArray, List.set_cons_zero, List.set_cons_succ]
      refine takeR (i := 1) (v := ?_) rfl (by kernel_rfl) (by kernel_rfl) (by kernel_rfl) (some 36) rfl (Or.inl ⟨by rfl, ?_⟩) (fun _ _ _ h => h) (by assumption) ?_
      rotate_left
      · intro w hSw; (try dsimp only at hSw); go_simp; (try with_reducible rfl)
      simp only [Act.put, List.setIfInBounds_toArray, List.set_cons_zero, List.set_cons_succ]
      refine takeR (i := 2) (v := ?_) rfl (by kernel_rfl) (by kernel_rfl) (by kernel_rfl) (some 37) rfl (Or.inl ⟨by rfl, ?_⟩) (fun _ _ _ h => h) (by assumption) ?_
      rotate_left
      · intro w hSw; (try dsimp only at hSw); go_simp; (try with_reducible rfl)
      simp only [Act.put, List.setIfInBounds_toArray, List.set_cons_zero, List.set_cons_succ]
      refine takeR (i := 3) (v := ?_) rfl (by kernel_rfl) (by kernel_rfl) (by kernel_rfl) (some 38) rfl (Or.inl ⟨by rfl, ?_⟩) (fun _ _ _ h => h) (by assumption) ?_
      rotate_left
      · intro w hSw; (try dsimp only at hSw); go_simp; (try with_reducible rfl)
      simp only [Act.put, List.setIfInBounds_toArray, List.set_cons_zero, List.set_cons_succ]
      refine takeR (i := 4) (v := ?_) rfl (by kernel_rfl) (by kernel_rfl) (by kernel_rfl) (some 39) rfl (Or.inl ⟨by rfl, ?_⟩) (fun _ _ _ h => h) (by assumption) ?_
      rotate_left
      · intro w hSw; (try dsimp only at hSw); go_simp; (try with_reducible rfl)
      simp only [Act.put, List.setIfInBounds_toArray, List.set_cons_zero, List.set_cons_succ]
      refine takeR (i := 5) (v := ?_) rfl (by kernel_rfl) (by kernel_rfl) (by kernel_rfl) (some 40) rfl (Or.inl ⟨by rfl, ?_⟩) (fun _ _ _ h => h) (by assumption) ?_
      rotate_left
      · intro w hSw; (try dsimp only at hSw); go_simp; (try with_reducible rfl)
      simp only [Act.put, List.setIfInBounds_toArray, List.set_cons_zero, List.set_cons_succ]
      refine takeR (i := 6) (v := ?_) rfl (by kernel_rfl) (by kernel_rfl) (by kernel_rfl) (some 41) rfl (Or.inl ⟨by rfl, ?_⟩) (fun _ _ _ h => h) (by assumption) ?_
      rotate_left
      · intro w hSw; (try dsimp only at hSw); go_simp; (try with_reducible rfl)
      simp only [Act.put, List.setIfInBounds_toArray, List.set_cons_zero, List.set_cons_succ]
      refine takeR (i := 7) (v := ?_) rfl (by kernel_rfl) (by kernel_rfl) (by kernel_rfl) (some 42) rfl (Or.inl ⟨by rfl, ?_⟩) (fun _ _ _ h => h) (by assumption) ?_
      rotate_left
      · intro w hSw; (try dsimp only at hSw); go_simp; (try with_reducible rfl)
      simp only [Act.put, List.setIfInBounds_toArray, List.set_cons_zero, List.set_cons_succ]
      refine takeR (i := 8) (v := ?_) rfl (by kernel_rfl) (by kernel_rfl) (by kernel_rfl) (some 43) rfl (Or.inl ⟨by rfl, ?_⟩) (fun _ _ _ h => h) (by assumption) ?_
      rotate_left
      · intro w hSw; (try dsimp only at hSw); go_simp; (try with_reducible rfl)
      simp only [Act.put, List.setIfInBounds_toArray, List.set_cons_zero, List.set_cons_succ]
      refine takeR (i := 9) (v := ?_) rfl (by kernel_rfl) (by kernel_rfl) (by kernel_rfl) (some 44) rfl (Or.inl ⟨by rfl, ?_⟩) (fun _ _ _ h => h) (by assumption) ?_
      rotate_left
      · intro w hSw; (try dsimp only at hSw); go_simp; (try with_reducible rfl)
      simp only [Act.put, List.setIfInBounds_toArray, List.set_cons_zero, List.set_cons_succ]
      refine wpAnyH_ready (rs := [10]) (by kernel_rfl) (by simp) (AllReadyH.cons rfl (fun K hK => ?_) AllReadyH.nil)
      go_simp
      refine (q6.out _ hHeld.2.2).mono ?_
      rintro e w6 ⟨rfl, b6⟩
      refine hK.out _ _ (keepA2 b6 hHeld) (fun hHeld => ?_)
      clear hK K
      try simp only [Act.put, List.setIfInBounds_toArray, List.set_cons_zero, List.set_cons_succ]
      refine takeR (i := 11) (v := ?_) rfl (by kernel_rfl) (by kernel_rfl) (by kernel_rfl) (some 6) rfl (Or.inl ⟨by rfl, ?_⟩) (fun _ _ _ h => h) (by assumption) ?_
      rotate_left
      · intro w hSw; (try dsimp only at hSw); go_simp; (try with_reducible rfl)
      simp only [Act.put, List.setIfInBounds_toArray, List.set_cons_zero, List.set_cons_succ]
      refine wpAnyH_done (by kernel_rfl) ?_ _
      have k6 := hHeld.2.2
      clear hHeld
      simp only [noPan]
      go_wp2_with fail
      have HK6 : w6.heap[D]? = some (.deferred (some [])) := (k6.block D hD5).trans HK5.out
      refine marksR (marks_ret HK6 (results_tmp rfl _ _ _) ⟨rfl, ?_⟩)
      have hb6 := HB5.out.trans (k6.mono HB5.out.size)
      exact (Out.putObj (S := fun k => k = D) (.deferred none) rfl).below hb6 (Nat.le_refl _) (fun k hk => by subst hk; omega)

end Go.Proofs.Ytickphnfgaibiab
