import Derived.Test.YtickphnfgaibiaaQe
import Derived.Test.YtickphnfgaibiaaQf
import Derived.Test.YtickphnfgaibiaaQg
import Derived.Test.YtickphnfgaibiaaQh
import Derived.Test.YtickphnfgaibiaaTi
import Derived.Test.YtickphnfgaibiaaHg
import Derived.Test.YtickphnfgaibiaaHf
import Derived.Deep.RegionHeld3
namespace Go.Proofs.Ytickphnfgaibiaa
open Go Go.RowKit
set_option linter.unusedVariables false
set_option linter.unusedSimpArgs false

theorem keepP4 {w0 wa wb : World} {g1 g2 g3 g4 : Nat} {c1 c2 c3 c4 : List Value} (k : Below wa.heap.size wa wb) (h : wa.rangeAt g1 0 c1 ∧ wa.rangeAt g2 0 c2 ∧ wa.rangeAt g3 0 c3 ∧ wa.rangeAt g4 0 c4 ∧ Below w0.heap.size w0 wa) : wb.rangeAt g1 0 c1 ∧ wb.rangeAt g2 0 c2 ∧ wb.rangeAt g3 0 c3 ∧ wb.rangeAt g4 0 c4 ∧ Below w0.heap.size w0 wb :=
  ⟨range_later h.1 k, range_later h.2.1 k, range_later h.2.2.1 k, range_later h.2.2.2.1 k, h.2.2.2.2.trans (k.mono h.2.2.2.2.size)⟩
/-- a value with a tern's bits that count, and else those of another -/
def pick4 (q : Q4) (p : Nat × Nat) : Nat × Nat := (q.1 &&& q.2.2.1 ||| andn p.1 q.2.2.1, q.2.1 &&& q.2.2.2 ||| andn p.2 q.2.2.2)
def xK (c : List Q4) (h : List (Nat × Nat)) : Nat → List (Nat × Nat)
  | 0 => h
  | j + 1 => (xK c h j).set j (pick4 (cq c j) (wq h j))
theorem xK_len (c : List Q4) (h : List (Nat × Nat)) : ∀ j, (xK c h j).length = h.length
  | 0 => rfl
  | j + 1 => by rw [xK, List.length_set, xK_len c h j]
theorem xK_at (c : List Q4) (h : List (Nat × Nat)) : ∀ j k, j ≤ k → (xK c h j)[k]? = h[k]?
  | 0, _, _ => rfl
  | j + 1, k, hk => by rw [xK, List.getElem?_set_ne (by omega), xK_at c h j k (by omega)]
theorem xK_low (c : List Q4) (h : List (Nat × Nat)) (hh : h.length = 24) : ∀ j k, k < j → j ≤ 24 → (xK c h j)[k]? = some (pick4 (cq c k) (wq h k))
  | 0, k, hk, _ => by omega
  | j + 1, k, hk, h2 => by
    rw [xK]
    by_cases e : k = j
    · subst e; rw [List.getElem?_set_self (by rw [xK_len, hh]; omega)]
    · rw [List.getElem?_set_ne (by omega), xK_low c h hh j k (by omega) (by omega)]
theorem tb_pick (a c x : Nat) (hc : c < 18446744073709551616) : (a ^^^ (a &&& c ||| andn x c)) &&& c = 0 := by
  rw [tb_has]
  intro i hi
  rw [Nat.testBit_or, Nat.testBit_and, tb_andn x c hc, hi]
  cases a.testBit i <;> cases x.testBit i <;> simp
theorem pick4_has (q : Q4) (p : Nat × Nat) (h3 : q.2.2.1 < 18446744073709551616) (h4 : q.2.2.2 < 18446744073709551616) : thz4 q (pick4 q p) = true := by
  unfold thz4 thz pick4
  simp only [Bool.and_eq_true, beq_iff_eq]
  exact ⟨tb_pick _ _ _ h3, tb_pick _ _ _ h4⟩
theorem xK_has (c : List Q4) (h : List (Nat × Nat)) (hc : isC c) (hh : isH h) : hasC c (xK c h 24) = true :=
  allB_intro (fun k hk => by
    rw [wq_at (xK_low c h hh.1 24 k hk (Nat.le_refl _))]
    exact pick4_has _ _ (cq_lt hc hk).2.2.1 (cq_lt hc hk).2.2.2)
theorem xK_isH (c : List Q4) (h : List (Nat × Nat)) (hc : isC c) (hh : isH h) : ∀ j, j ≤ 24 → isH (xK c h j)
  | 0, _ => hh
  | j + 1, hj => by
    have hq := cq_lt hc (show j < 24 by omega)
    obtain ⟨x, y, e, h1, h2⟩ := hh.get (show j < 24 by omega)
    refine (xK_isH c h hc hh j (by omega)).set j ?_ ?_
    · exact or_lt _ _ (and_lt _ _ hq.1) (by rw [wq_at e]; exact tandn_lt _ _ h1)
    · exact or_lt _ _ (and_lt _ _ hq.2.1) (by rw [wq_at e]; exact tandn_lt _ _ h2)
theorem pickC_has (c : List Q4) : hasC c (pickC c) = true :=
  allB_intro (fun k hk => by
    have e : (pickC c)[k]? = some ((cq c k).1 &&& (cq c k).2.2.1, (cq c k).2.1 &&& (cq c k).2.2.2) := by
      unfold pickC; rw [List.getElem?_map, List.getElem?_range hk]; rfl
    rw [wq_at e]
    exact clean_has _ _ _ _)
theorem pickC_isH (c : List Q4) (hc : isC c) : isH (pickC c) := by
  refine ⟨by simp [pickC, cleanC], fun p hp => ?_⟩
  unfold pickC at hp
  obtain ⟨k, hk, rfl⟩ := List.mem_map.1 hp
  have hq := cq_lt hc (List.mem_range.1 hk)
  exact ⟨and_lt _ _ hq.1, and_lt _ _ hq.2.1⟩
theorem all_ones (a x : Nat) (ha : a < 18446744073709551616) (hx : x < 18446744073709551616) : ((a ^^^ x) &&& 18446744073709551615 == 0) = decide (a = x) := by
  have h : a ^^^ x < 2 ^ 64 := Nat.xor_lt_two_pow ha hx
  have e : (a ^^^ x) &&& 18446744073709551615 = a ^^^ x := by
    have := Nat.and_two_pow_sub_one_of_lt_two_pow h
    exact this
  rw [e]
  by_cases k : a = x
  · subst k; simp
  · rw [decide_eq_false k]
    simp only [beq_eq_false_iff_ne]
    intro hh
    apply k
    apply Nat.eq_of_testBit_eq
    intro i
    have := congrArg (·.testBit i) hh
    simp only [Nat.testBit_xor, Nat.zero_testBit] at this
    revert this
    cases a.testBit i <;> cases x.testBit i <;> simp
theorem oneC_has (h g : List (Nat × Nat)) (hh : isH h) (hg : isH g) : hasC (oneC h) g = decide (h = g) := by
  have e : ∀ k, k < 24 → thz4 (cq (oneC h) k) (wq g k) = decide (h[k]? = g[k]?) := fun k hk => by
    obtain ⟨x, y, e1, h1, h2⟩ := hh.get hk
    obtain ⟨x', y', e2, i1, i2⟩ := hg.get hk
    have e3 : (oneC h)[k]? = some (x, y, 18446744073709551615, 18446744073709551615) := by
      unfold oneC; rw [List.getElem?_map, List.getElem?_range hk]; simp [wq_at e1]
    rw [cq_at e3, wq_at e2, e1, e2]
    show thz x y _ _ x' y' = _
    unfold thz
    rw [all_ones x x' h1 i1, all_ones y y' h2 i2]
    by_cases p1 : x = x' <;> by_cases p2 : y = y' <;> simp [p1, p2]
  unfold hasC
  rw [allB_congr e]
  by_cases k : h = g
  · subst k; rw [decide_eq_true rfl]; exact allB_intro (fun _ _ => by simp)
  · rw [decide_eq_false k, Bool.eq_false_iff]
    intro hh2
    apply k
    apply List.ext_getElem?
    intro i
    by_cases hi : i < 24
    · simpa using allB_at hh2 hi
    · rw [List.getElem?_eq_none (by rw [hh.1]; omega), List.getElem?_eq_none (by rw [hg.1]; omega)]
theorem zeroC_has (g : List (Nat × Nat)) : hasC z24q g = true :=
  allB_intro (fun k hk => by
    have e : z24q[k]? = some (0, 0, 0, 0) := by unfold z24q; rw [List.getElem?_replicate]; simp [hk]
    rw [cq_at e]
    show thz 0 0 0 0 _ _ = true
    simp [thz])
theorem keepA6s {p0 p1 p2 p3 p4 p5 : Addr} {x0 x1 x2 x3 x4 x5 y0 y1 : Value} {w0 wa : World} {g i0 i1 : Nat} (h : wa.cell? p0 = some x0 ∧ wa.cell? p1 = some x1 ∧ wa.cell? p2 = some x2 ∧ wa.cell? p3 = some x3 ∧ wa.cell? p4 = some x4 ∧ wa.cell? p5 = some x5 ∧ Below w0.heap.size w0 wa) (hg : w0.heap.size ≤ g) (n0 : g ≠ p0.block) (n1 : g ≠ p1.block) (n2 : g ≠ p2.block) (n3 : g ≠ p3.block) (n4 : g ≠ p4.block) (n5 : g ≠ p5.block) :
    ((wa.setCell ⟨g, i0, none⟩ y0).setCell ⟨g, i1, none⟩ y1).cell? p0 = some x0 ∧ ((wa.setCell ⟨g, i0, none⟩ y0).setCell ⟨g, i1, none⟩ y1).cell? p1 = some x1 ∧ ((wa.setCell ⟨g, i0, none⟩ y0).setCell ⟨g, i1, none⟩ y1).cell? p2 = some x2 ∧ ((wa.setCell ⟨g, i0, none⟩ y0).setCell ⟨g, i1, none⟩ y1).cell? p3 = some x3 ∧ ((wa.setCell ⟨g, i0, none⟩ y0).setCell ⟨g, i1, none⟩ y1).cell? p4 = some x4 ∧ ((wa.setCell ⟨g, i0, none⟩ y0).setCell ⟨g, i1, none⟩ y1).cell? p5 = some x5 ∧ Below w0.heap.size w0 ((wa.setCell ⟨g, i0, none⟩ y0).setCell ⟨g, i1, none⟩ y1) := by
  have f : ∀ (p : Addr), g ≠ p.block → ((wa.setCell ⟨g, i0, none⟩ y0).setCell ⟨g, i1, none⟩ y1).cell? p = wa.cell? p := fun p n => by
    rw [World.cell?_of_block (w := wa.setCell ⟨g, i0, none⟩ y0) (Below.heap_setCell _ _ _ _ (fun e => n e.symm)), World.cell?_of_block (w := wa) (Below.heap_setCell _ _ _ _ (fun e => n e.symm))]
  exact ⟨(f _ n0).trans h.1, (f _ n1).trans h.2.1, (f _ n2).trans h.2.2.1, (f _ n3).trans h.2.2.2.1, (f _ n4).trans h.2.2.2.2.1, (f _ n5).trans h.2.2.2.2.2.1, (h.2.2.2.2.2.2.setCell (p := ⟨g, i0, none⟩) hg _).setCell (p := ⟨g, i1, none⟩) hg _⟩

set_option maxRecDepth 100000 in
set_option maxHeartbeats 8000000 in
theorem cubePick_walk (c : List Q4) (h g : List (Nat × Nat)) (hc : isC c) (hh : isH h) (hg : isH g) (w : World) :
    Calls Try.prog 5 #[cv c, hv h, hv g] w fun e w' => e = .returned (.bool true) ∧ Below w.heap.size w w' := by
  have HC := hide_ hc
  have HH := hide_ hh
  have q1 := hide_ (fun w => cpick_any c hc w)
  have q2 := fun w => chas_any c (pickC c) hc (pickC_isH c hc) w
  rw [pickC_has c] at q2
  have q2 := hide_ q2
  have q3 := fun w => chas_any c (xK c h 24) hc (xK_isH c h hc hh 24 (Nat.le_refl _)) w
  rw [xK_has c h hc hh] at q3
  have q3 := hide_ q3
  have q4 := hide_ (fun w => cone_any h hh w)
  have q5 := fun w => chas_any (oneC h) g (isC_map _ (fun k hk => by obtain ⟨x, y, e1, h1, h2⟩ := hh.get hk; rw [wq_at e1]; exact ⟨h1, h2, by dsimp only; omega, by dsimp only; omega⟩)) hg w
  rw [oneC_has h g hh hg] at q5
  have q5 := hide_ q5
  have q6 := hide_ (fun w => call_any w)
  have q7 := fun w => chas_any z24q g z24q_isC hg w
  rw [zeroC_has g] at q7
  have q7 := hide_ q7
  have heq := fun w => run_heqIn h g hh.1 hg.1 w
  have hlc := hide_ hc.1
  have hlh := hide_ hh.1
  have hlg := hide_ hg.1
  have hlX := hide_ (xK_isH c h hc hh 24 (Nat.le_refl _)).1
  have A0 := hide_ (((AB.at0 w 28 (tdc c)).alloc (.cells (wdc h).toArray 30)).alloc (.cells (wdc g).toArray 30))
  have H0 := hide_ ((AB.at1 w (.cells (tdc c).toArray 28) 30 (wdc h)).alloc (.cells (wdc g).toArray 30))
  have G0 := hide_ (AB.at2 w (.cells (tdc c).toArray 28) (.cells (wdc h).toArray 30) 30 (wdc g))
  have X0 : Hid (AB ((((w.alloc (.cells (tdc c).toArray 28)).alloc (.cells (wdc h).toArray 30)).alloc (.cells (wdc g).toArray 30)).alloc (.cells #[.int .u64 0, .int .u64 0, .int .u64 0, .int .u64 0, .int .u64 0, .int .u64 0, .int .u64 0, .int .u64 0, .int .u64 0, .int .u64 0, .int .u64 0, .int .u64 0, .int .u64 0, .int .u64 0, .int .u64 0, .int .u64 0, .int .u64 0, .int .u64 0, .int .u64 0, .int .u64 0, .int .u64 0, .int .u64 0, .int .u64 0, .int .u64 0, .int .u64 0, .int .u64 0, .int .u64 0, .int .u64 0, .int .u64 0, .int .u64 0, .int .u64 0, .int .u64 0, .int .u64 0, .int .u64 0, .int .u64 0, .int .u64 0, .int .u64 0, .int .u64 0, .int .u64 0, .int .u64 0, .int .u64 0, .int .u64 0, .int .u64 0, .int .u64 0, .int .u64 0, .int .u64 0, .int .u64 0, .int .u64 0] 30)) (w.heap.size + 1 + 1 + 1) 30 (wdc z24)) := hide_ (by rw [zh48]; have := AB.at2 (w.alloc (.cells (tdc c).toArray 28)) (.cells (wdc h).toArray 30) (.cells (wdc g).toArray 30) 30 (wdc z24); rwa [World.size_alloc] at this)
  have B0 := hide_ ((below3 w (.cells (tdc c).toArray 28) (.cells (wdc h).toArray 30) (.cells (wdc g).toArray 30)).alloc (by simp; omega) (.cells #[.int .u64 0, .int .u64 0, .int .u64 0, .int .u64 0, .int .u64 0, .int .u64 0, .int .u64 0, .int .u64 0, .int .u64 0, .int .u64 0, .int .u64 0, .int .u64 0, .int .u64 0, .int .u64 0, .int .u64 0, .int .u64 0, .int .u64 0, .int .u64 0, .int .u64 0, .int .u64 0, .int .u64 0, .int .u64 0, .int .u64 0, .int .u64 0, .int .u64 0, .int .u64 0, .int .u64 0, .int .u64 0, .int .u64 0, .int .u64 0, .int .u64 0, .int .u64 0, .int .u64 0, .int .u64 0, .int .u64 0, .int .u64 0, .int .u64 0, .int .u64 0, .int .u64 0, .int .u64 0, .int .u64 0, .int .u64 0, .int .u64 0, .int .u64 0, .int .u64 0, .int .u64 0, .int .u64 0, .int .u64 0] 30))
  generalize decide (h = g) = zE at *
  generalize oneC h = O at *
  generalize pickC c = P at *
  clear hc hh hg
  unfold cv at *
  unfold hv at *
  go_enter Try.func5, Try.ntmps5
  go_wp2_with (first | (refine wpList_loadA Try.underlying30 rfl (.tmp 4) rfl (w.heap.size + 1) (by simp [Act.eval, Act.put]) (wdc h) (szW hlh.out) H0.out ?_) | (refine wpList_storeA rfl (.tmp 7) (.tmp 10) rfl (w.heap.size + 1 + 1 + 1) (by simp [Act.eval, Act.put]) (wdc z24) (wdc h) (by rw [wdc_length, wdc_length, hlh.out, z24_len]) (szW hlh.out) (wdc_one _) (by simp [Act.eval, Act.put]) X0.out ?_) | (refine wpList_loadA Try.underlying28 rfl (.tmp 3) rfl w.heap.size (by simp [Act.eval, Act.put]) (tdc c) (szC hlc.out) ((A0.out.alloc (.cells #[.int .u64 0, .int .u64 0, .int .u64 0, .int .u64 0, .int .u64 0, .int .u64 0, .int .u64 0, .int .u64 0, .int .u64 0, .int .u64 0, .int .u64 0, .int .u64 0, .int .u64 0, .int .u64 0, .int .u64 0, .int .u64 0, .int .u64 0, .int .u64 0, .int .u64 0, .int .u64 0, .int .u64 0, .int .u64 0, .int .u64 0, .int .u64 0, .int .u64 0, .int .u64 0, .int .u64 0, .int .u64 0, .int .u64 0, .int .u64 0, .int .u64 0, .int .u64 0, .int .u64 0, .int .u64 0, .int .u64 0, .int .u64 0, .int .u64 0, .int .u64 0, .int .u64 0, .int .u64 0, .int .u64 0, .int .u64 0, .int .u64 0, .int .u64 0, .int .u64 0, .int .u64 0, .int .u64 0, .int .u64 0] 30)).row_far (f := w.heap.size + 1 + 1 + 1) (wdc h).toArray (by omega)) ?_))
  have A1 := hide_ ((A0.out.alloc (.cells #[.int .u64 0, .int .u64 0, .int .u64 0, .int .u64 0, .int .u64 0, .int .u64 0, .int .u64 0, .int .u64 0, .int .u64 0, .int .u64 0, .int .u64 0, .int .u64 0, .int .u64 0, .int .u64 0, .int .u64 0, .int .u64 0, .int .u64 0, .int .u64 0, .int .u64 0, .int .u64 0, .int .u64 0, .int .u64 0, .int .u64 0, .int .u64 0, .int .u64 0, .int .u64 0, .int .u64 0, .int .u64 0, .int .u64 0, .int .u64 0, .int .u64 0, .int .u64 0, .int .u64 0, .int .u64 0, .int .u64 0, .int .u64 0, .int .u64 0, .int .u64 0, .int .u64 0, .int .u64 0, .int .u64 0, .int .u64 0, .int .u64 0, .int .u64 0, .int .u64 0, .int .u64 0, .int .u64 0, .int .u64 0] 30)).row_far (f := w.heap.size + 1 + 1 + 1) (wdc h).toArray (by omega))
  have H1 := hide_ ((H0.out.alloc (.cells #[.int .u64 0, .int .u64 0, .int .u64 0, .int .u64 0, .int .u64 0, .int .u64 0, .int .u64 0, .int .u64 0, .int .u64 0, .int .u64 0, .int .u64 0, .int .u64 0, .int .u64 0, .int .u64 0, .int .u64 0, .int .u64 0, .int .u64 0, .int .u64 0, .int .u64 0, .int .u64 0, .int .u64 0, .int .u64 0, .int .u64 0, .int .u64 0, .int .u64 0, .int .u64 0, .int .u64 0, .int .u64 0, .int .u64 0, .int .u64 0, .int .u64 0, .int .u64 0, .int .u64 0, .int .u64 0, .int .u64 0, .int .u64 0, .int .u64 0, .int .u64 0, .int .u64 0, .int .u64 0, .int .u64 0, .int .u64 0, .int .u64 0, .int .u64 0, .int .u64 0, .int .u64 0, .int .u64 0, .int .u64 0] 30)).row_far (f := w.heap.size + 1 + 1 + 1) (wdc h).toArray (by omega))
  have G1 := hide_ ((G0.out.alloc (.cells #[.int .u64 0, .int .u64 0, .int .u64 0, .int .u64 0, .int .u64 0, .int .u64 0, .int .u64 0, .int .u64 0, .int .u64 0, .int .u64 0, .int .u64 0, .int .u64 0, .int .u64 0, .int .u64 0, .int .u64 0, .int .u64 0, .int .u64 0, .int .u64 0, .int .u64 0, .int .u64 0, .int .u64 0, .int .u64 0, .int .u64 0, .int .u64 0, .int .u64 0, .int .u64 0, .int .u64 0, .int .u64 0, .int .u64 0, .int .u64 0, .int .u64 0, .int .u64 0, .int .u64 0, .int .u64 0, .int .u64 0, .int .u64 0, .int .u64 0, .int .u64 0, .int .u64 0, .int .u64 0, .int .u64 0, .int .u64 0, .int .u64 0, .int .u64 0, .int .u64 0, .int .u64 0, .int .u64 0, .int .u64 0] 30)).row_far (f := w.heap.size + 1 + 1 + 1) (wdc h).toArray (by omega))
  have X1 := hide_ (X0.out.row (cs' := wdc h))
  have B1 := B0.out.trans (below_row _ (w.heap.size + 1 + 1 + 1) _ (wdc h).toArray (by omega))
  clear A0 H0 G0 X0 B0
  try simp only [Act.put]
  generalize ((((w.alloc (.cells (tdc c).toArray 28)).alloc (.cells (wdc h).toArray 30)).alloc (.cells (wdc g).toArray 30)).alloc (.cells #[.int .u64 0, .int .u64 0, .int .u64 0, .int .u64 0, .int .u64 0, .int .u64 0, .int .u64 0, .int .u64 0, .int .u64 0, .int .u64 0, .int .u64 0, .int .u64 0, .int .u64 0, .int .u64 0, .int .u64 0, .int .u64 0, .int .u64 0, .int .u64 0, .int .u64 0, .int .u64 0, .int .u64 0, .int .u64 0, .int .u64 0, .int .u64 0, .int .u64 0, .int .u64 0, .int .u64 0, .int .u64 0, .int .u64 0, .int .u64 0, .int .u64 0, .int .u64 0, .int .u64 0, .int .u64 0, .int .u64 0, .int .u64 0, .int .u64 0, .int .u64 0, .int .u64 0, .int .u64 0, .int .u64 0, .int .u64 0, .int .u64 0, .int .u64 0, .int .u64 0, .int .u64 0, .int .u64 0, .int .u64 0] 30)).setRow (w.heap.size + 1 + 1 + 1) (wdc h).toArray = W at *
  go_loopw [8, 9, 12] (fun _ _ i wr => ∃ j : Nat, j ≤ 24 ∧ i = .int .i64 (j : Int) ∧ Hid (AB wr w.heap.size 28 (tdc c)) ∧ Hid (AB wr (w.heap.size + 1) 30 (wdc h)) ∧ Hid (AB wr (w.heap.size + 1 + 1) 30 (wdc g)) ∧ Hid (AB wr (w.heap.size + 1 + 1 + 1) 30 (wdc (xK c h j))) ∧ Below w.heap.size w wr) (fun _ _ i _ => 24 - (intOf i).toNat)
  case atStart => exact ⟨0, by omega, rfl, A1, H1, G1, X1, B1⟩
  case round =>
    obtain ⟨j, hj, rfl, HA, HB, HG, HX, hb⟩ := hrel
    have hsz := HX.out.lt
    by_cases hlt : j < 24
    · have hlt' : (j : Int) < 24 := by omega
      have hj0 : (0 : Int) ≤ (j : Int) := by omega
      obtain ⟨a, b, cc, d, e1, h1, h2, h3, h4⟩ := HC.out.get hlt
      obtain ⟨x, y, e2, i1, i2⟩ := HH.out.get hlt
      have hix := fun w => idx44 c j a b cc d w hlt hlc.out e1
      have qa := hide_ (fun w => and_any a b cc d w h1 h2 h3 h4)
      have ql := hide_ (fun w => less_any x y cc d w i1 i2 h3 h4)
      have qo := hide_ (fun w => or_any (a &&& cc) (b &&& d) (andn x cc) (andn y d) w (and_lt _ _ h1) (and_lt _ _ h2) (tandn_lt _ _ i1) (tandn_lt _ _ i2))
      have HS : Hid ((xK c h j).set j (a &&& cc ||| andn x cc, b &&& d ||| andn y d) = xK c h (j + 1)) := hide_ (by rw [xK, cq_at e1, wq_at e2]; rfl)
      have HQ := hide_ ((xK_at c h j j (Nat.le_refl _)).trans e2)
      obtain ⟨o4, o5, -⟩ := (HB.out.alloc (.cells #[.int .u64 (a : Int), .int .u64 (b : Int), .int .u64 (cc : Int), .int .u64 (d : Int)] 26)).pair e2
      obtain ⟨o0, o1, o2, o3, -⟩ := (AB.at0 wr 26 [.int .u64 (a : Int), .int .u64 (b : Int), .int .u64 (cc : Int), .int .u64 (d : Int)]).four
      have A2 := hide_ (HA.out.alloc (.cells #[.int .u64 (a : Int), .int .u64 (b : Int), .int .u64 (cc : Int), .int .u64 (d : Int)] 26))
      have H2 := hide_ (HB.out.alloc (.cells #[.int .u64 (a : Int), .int .u64 (b : Int), .int .u64 (cc : Int), .int .u64 (d : Int)] 26))
      have G2 := hide_ (HG.out.alloc (.cells #[.int .u64 (a : Int), .int .u64 (b : Int), .int .u64 (cc : Int), .int .u64 (d : Int)] 26))
      have X2 := hide_ (HX.out.alloc (.cells #[.int .u64 (a : Int), .int .u64 (b : Int), .int .u64 (cc : Int), .int .u64 (d : Int)] 26))
      have b2 := hb.alloc hb.size (.cells #[.int .u64 (a : Int), .int .u64 (b : Int), .int .u64 (cc : Int), .int .u64 (d : Int)] 26)
      generalize a &&& cc ||| andn x cc = m1 at *
      generalize b &&& d ||| andn y d = m2 at *
      generalize a &&& cc = n1 at *
      generalize b &&& d = n2 at *
      generalize andn x cc = n3 at *
      generalize andn y d = n4 at *
      clear e1 e2 h1 h2 h3 h4 i1 i2 HA HB HG HX
      unfold wd at qa ql qo
      go_wp2_with fail
      generalize wr.alloc (.cells #[.int .u64 (a : Int), .int .u64 (b : Int), .int .u64 (cc : Int), .int .u64 (d : Int)] 26) = V at *
      have kk := hide_ ((Below.refl V.heap.size V).drew)
      go_region_held3 (fun w' => w'.cell? ⟨wr.heap.size, 0, none⟩ = some (.int .u64 (a : Int)) ∧ w'.cell? ⟨wr.heap.size, 1, none⟩ = some (.int .u64 (b : Int)) ∧ w'.cell? ⟨wr.heap.size, 2, none⟩ = some (.int .u64 (cc : Int)) ∧ w'.cell? ⟨wr.heap.size, 3, none⟩ = some (.int .u64 (d : Int)) ∧ w'.cell? ⟨w.heap.size + 1, j * 2, none⟩ = some (.int .u64 (x : Int)) ∧ w'.cell? ⟨w.heap.size + 1, j * 2 + 1, none⟩ = some (.int .u64 (y : Int)) ∧ Below w.heap.size w w')
        (first | (with_reducible exact keepA6 (by assumption) (by assumption)) | (with_reducible exact keepA6s (by assumption) (by omega) (by dsimp only; omega) (by dsimp only; omega) (by dsimp only; omega) (by dsimp only; omega) (by dsimp only; omega) (by dsimp only; omega)) | (exact ⟨o0, o1, o2, o3, o4, o5, b2.drew⟩) | (exact ⟨o0, o1, o2, o3, o4, o5, b2⟩))
        (first | (go_at_call 27; refine (qa.out _).mono ?_; rintro e w4 ⟨rfl, b4⟩; have kk := hide_ (kk.out.trans (b4.mono kk.out.size))) | (go_at_call 28; refine (ql.out _).mono ?_; rintro e w4 ⟨rfl, b4⟩; have kk := hide_ (kk.out.trans (b4.mono kk.out.size))) | (go_at_call 26; refine (qo.out _).mono ?_; rintro e w4 ⟨rfl, b4⟩; have kk := hide_ (kk.out.trans (b4.mono kk.out.size)); obtain ⟨s0, s1, s2, s3⟩ := (X2.out.later kk.out).pair HQ.out))
      all_goals
        rename_i hH
        have b5 := hH.2.2.2.2.2.2
        clear hH
        go_wp2_with fail
        go_roundw
        case rel => exact ⟨j + 1, by omega, by go_num, hide_ (((A2.out.later kk.out).far _ (by omega)).far _ (by omega)), hide_ (((H2.out.later kk.out).far _ (by omega)).far _ (by omega)), hide_ (((G2.out.later kk.out).far _ (by omega)).far _ (by omega)), by rw [← HS.out]; exact hide_ ((X2.out.later kk.out).setp j m1 m2), b5⟩
        case measure => simp [intOf]; omega
    · have hlt' : ¬ (j : Int) < 24 := by omega
      have e : j = 24 := by omega
      subst e
      generalize xK c h 24 = X at *
      have R1 := HA.out.range
      have R2 := HB.out.range
      have R3 := HG.out.range
      have R4 := HX.out.range
      have BV := hide_ hb
      clear HA HB HG HX hb
      go_wp2_with fail
      try simp only [Act.put]
      generalize wr = V at *
      refine wp_region_held_drew (S := fun w' => w'.rangeAt w.heap.size 0 (tdc c) ∧ w'.rangeAt (w.heap.size + 1) 0 (wdc h) ∧ w'.rangeAt (w.heap.size + 1 + 1) 0 (wdc g) ∧ w'.rangeAt (w.heap.size + 1 + 1 + 1) 0 (wdc X) ∧ Below V.heap.size V w') (by kernel_rfl) (keepP4 (Below.refl _ _).drew ⟨R1, R2, R3, R4, Below.refl _ _⟩) (fun hHeld => ?_)
      refine takeL Try.underlying28 (i := 0) rfl (by kernel_rfl) (by kernel_rfl) (by kernel_rfl) (some 31) rfl (.tmp 3) rfl (by rfl) w.heap.size rfl (tdc c) (szC hlc.out) (fun w h => h.1) (fun _ _ _ h => h) (by assumption) ?_
      simp only [Act.put, List.setIfInBounds_toArray, List.set_cons_zero, List.set_cons_succ]
      refine takeL Try.underlying28 (i := 1) rfl (by kernel_rfl) (by kernel_rfl) (by kernel_rfl) (some 32) rfl (.tmp 3) rfl (by rfl) w.heap.size rfl (tdc c) (szC hlc.out) (fun w h => h.1) (fun _ _ _ h => h) (by assumption) ?_
      simp only [Act.put, List.setIfInBounds_toArray, List.set_cons_zero, List.set_cons_succ]
      refine wpAnyH_ready (rs := [2]) (by kernel_rfl) (by simp) (AllReadyH.cons rfl (fun K hK => ?_) AllReadyH.nil)
      go_simp
      refine (q1.out _).mono ?_
      rintro e w9 ⟨rfl, b9⟩
      refine hK.out _ _ (keepP4 b9 hHeld) (fun hHeld => ?_)
      clear hK K
      try simp only [Act.put, List.setIfInBounds_toArray, List.set_cons_zero, List.set_cons_succ]
      refine wpAnyH_ready (rs := [3]) (by kernel_rfl) (by simp) (AllReadyH.cons rfl (fun K hK => ?_) AllReadyH.nil)
      go_simp
      refine (q2.out _).mono ?_
      rintro e w9 ⟨rfl, b9⟩
      refine hK.out _ _ (keepP4 b9 hHeld) (fun hHeld => ?_)
      clear hK K
      try simp only [Act.put, List.setIfInBounds_toArray, List.set_cons_zero, List.set_cons_succ]
      refine takeR (i := 4) (v := ?_) rfl (by kernel_rfl) (by kernel_rfl) (by kernel_rfl) (some 35) rfl (Or.inl ⟨by rfl, ?_⟩) (fun _ _ _ h => h) (by assumption) ?_
      rotate_left
      · intro w hSw; (try dsimp only at hSw); go_simp; (try with_reducible rfl)
      simp only [Act.put, List.setIfInBounds_toArray, List.set_cons_zero, List.set_cons_succ]
      refine takeL Try.underlying28 (i := 5) rfl (by kernel_rfl) (by kernel_rfl) (by kernel_rfl) (some 36) rfl (.tmp 3) rfl (by rfl) w.heap.size rfl (tdc c) (szC hlc.out) (fun w h => h.1) (fun _ _ _ h => h) (by assumption) ?_
      simp only [Act.put, List.setIfInBounds_toArray, List.set_cons_zero, List.set_cons_succ]
      refine takeL Try.underlying30 (i := 6) rfl (by kernel_rfl) (by kernel_rfl) (by kernel_rfl) (some 37) rfl (.tmp 7) rfl (by rfl) (w.heap.size + 1 + 1 + 1) rfl (wdc X) (szW hlX.out) (fun w h => h.2.2.2.1) (fun _ _ _ h => h) (by assumption) ?_
      simp only [Act.put, List.setIfInBounds_toArray, List.set_cons_zero, List.set_cons_succ]
      refine wpAnyH_ready (rs := [7]) (by kernel_rfl) (by simp) (AllReadyH.cons rfl (fun K hK => ?_) AllReadyH.nil)
      go_simp
      refine (q3.out _).mono ?_
      rintro e w9 ⟨rfl, b9⟩
      refine hK.out _ _ (keepP4 b9 hHeld) (fun hHeld => ?_)
      clear hK K
      try simp only [Act.put, List.setIfInBounds_toArray, List.set_cons_zero, List.set_cons_succ]
      refine takeR (i := 8) (v := ?_) rfl (by kernel_rfl) (by kernel_rfl) (by kernel_rfl) (some 39) rfl (Or.inl ⟨by rfl, ?_⟩) (fun _ _ _ h => h) (by assumption) ?_
      rotate_left
      · intro w hSw; (try dsimp only at hSw); go_simp; (try with_reducible rfl)
      simp only [Act.put, List.setIfInBounds_toArray, List.set_cons_zero, List.set_cons_succ]
      refine takeR (i := 9) (v := ?_) rfl (by kernel_rfl) (by kernel_rfl) (by kernel_rfl) (some 40) rfl (Or.inl ⟨by rfl, ?_⟩) (fun _ _ _ h => h) (by assumption) ?_
      rotate_left
      · intro w hSw; (try dsimp only at hSw); go_simp; (try with_reducible rfl)
      simp only [Act.put, List.setIfInBounds_toArray, List.set_cons_zero, List.set_cons_succ]
      refine takeL Try.underlying30 (i := 10) rfl (by kernel_rfl) (by kernel_rfl) (by kernel_rfl) (some 41) rfl (.tmp 4) rfl (by rfl) (w.heap.size + 1) rfl (wdc h) (szW hlh.out) (fun w h => h.2.1) (fun _ _ _ h => h) (by assumption) ?_
      simp only [Act.put, List.setIfInBounds_toArray, List.set_cons_zero, List.set_cons_succ]
      refine takeL Try.underlying30 (i := 12) rfl (by kernel_rfl) (by kernel_rfl) (by kernel_rfl) (some 43) rfl (.tmp 5) rfl (by rfl) (w.heap.size + 1 + 1) rfl (wdc g) (szW hlg.out) (fun w h => h.2.2.1) (fun _ _ _ h => h) (by assumption) ?_
      simp only [Act.put, List.setIfInBounds_toArray, List.set_cons_zero, List.set_cons_succ]
      refine takeL Try.underlying30 (i := 14) rfl (by kernel_rfl) (by kernel_rfl) (by kernel_rfl) (some 45) rfl (.tmp 4) rfl (by rfl) (w.heap.size + 1) rfl (wdc h) (szW hlh.out) (fun w h => h.2.1) (fun _ _ _ h => h) (by assumption) ?_
      simp only [Act.put, List.setIfInBounds_toArray, List.set_cons_zero, List.set_cons_succ]
      refine takeL Try.underlying30 (i := 15) rfl (by kernel_rfl) (by kernel_rfl) (by kernel_rfl) (some 46) rfl (.tmp 5) rfl (by rfl) (w.heap.size + 1 + 1) rfl (wdc g) (szW hlg.out) (fun w h => h.2.2.1) (fun _ _ _ h => h) (by assumption) ?_
      simp only [Act.put, List.setIfInBounds_toArray, List.set_cons_zero, List.set_cons_succ]
      refine takeR (i := 16) (v := ?_) rfl (by kernel_rfl) (by kernel_rfl) (by kernel_rfl) (some 47) rfl (Or.inl ⟨by rfl, ?_⟩) (fun _ _ _ h => h) (by assumption) ?_
      rotate_left
      · intro w hSw; (try dsimp only at hSw); go_simp; (try with_reducible rfl)
      simp only [Act.put, List.setIfInBounds_toArray, List.set_cons_zero, List.set_cons_succ]
      refine wpAnyH_ready (rs := [11]) (by kernel_rfl) (by simp) (AllReadyH.cons rfl (fun K hK => ?_) AllReadyH.nil)
      go_simp
      refine (q4.out _).mono ?_
      rintro e w9 ⟨rfl, b9⟩
      refine hK.out _ _ (keepP4 b9 hHeld) (fun hHeld => ?_)
      clear hK K
      try simp only [Act.put, List.setIfInBounds_toArray, List.set_cons_zero, List.set_cons_succ]
      refine wpAnyH_ready (rs := [13]) (by kernel_rfl) (by simp) (AllReadyH.cons rfl (fun K hK => ?_) AllReadyH.nil)
      go_simp
      refine (q5.out _).mono ?_
      rintro e w9 ⟨rfl, b9⟩
      refine hK.out _ _ (keepP4 b9 hHeld) (fun hHeld => ?_)
      clear hK K
      try simp only [Act.put, List.setIfInBounds_toArray, List.set_cons_zero, List.set_cons_succ]
      refine takeR (i := 17) (v := ?_) rfl (by kernel_rfl) (by kernel_rfl) (by kernel_rfl) (some 48) rfl (Or.inl ⟨by rfl, ?_⟩) (fun _ _ _ h => h) (by assumption) ?_
      rotate_left
      · intro w hSw; (try dsimp only at hSw); go_simp; (try with_reducible rfl)
      simp only [Act.put, List.setIfInBounds_toArray, List.set_cons_zero, List.set_cons_succ]
      refine takeR (i := 18) (v := ?_) rfl (by kernel_rfl) (by kernel_rfl) (by kernel_rfl) (some 49) rfl (Or.inl ⟨by rfl, ?_⟩) (fun _ _ _ h => h) (by assumption) ?_
      rotate_left
      · intro w hSw; (try dsimp only at hSw); go_simp; (try with_reducible rfl)
      simp only [Act.put, List.setIfInBounds_toArray, List.set_cons_zero, List.set_cons_succ]
      refine takeR (i := 19) (v := ?_) rfl (by kernel_rfl) (by kernel_rfl) (by kernel_rfl) (some 50) rfl (Or.inl ⟨by rfl, ?_⟩) (fun _ _ _ h => h) (by assumption) ?_
      rotate_left
      · intro w hSw; (try dsimp only at hSw); go_simp; (try with_reducible rfl)
      simp only [Act.put, List.setIfInBounds_toArray, List.set_cons_zero, List.set_cons_succ]
      refine takeL Try.underlying30 (i := 21) rfl (by kernel_rfl) (by kernel_rfl) (by kernel_rfl) (some 52) rfl (.tmp 5) rfl (by rfl) (w.heap.size + 1 + 1) rfl (wdc g) (szW hlg.out) (fun w h => h.2.2.1) (fun _ _ _ h => h) (by assumption) ?_
      simp only [Act.put, List.setIfInBounds_toArray, List.set_cons_zero, List.set_cons_succ]
      refine wpAnyH_ready (rs := [20]) (by kernel_rfl) (by simp) (AllReadyH.cons rfl (fun K hK => ?_) AllReadyH.nil)
      go_simp
      refine (q6.out _).mono ?_
      rintro e w9 ⟨rfl, b9⟩
      refine hK.out _ _ (keepP4 b9 hHeld) (fun hHeld => ?_)
      clear hK K
      try simp only [Act.put, List.setIfInBounds_toArray, List.set_cons_zero, List.set_cons_succ]
      refine wpAnyH_ready (rs := [22]) (by kernel_rfl) (by simp) (AllReadyH.cons rfl (fun K hK => ?_) AllReadyH.nil)
      go_simp
      refine (q7.out _).mono ?_
      rintro e w9 ⟨rfl, b9⟩
      refine hK.out _ _ (keepP4 b9 hHeld) (fun hHeld => ?_)
      clear hK K
      try simp only [Act.put, List.setIfInBounds_toArray, List.set_cons_zero, List.set_cons_succ]
      refine takeR (i := 23) (v := ?_) rfl (by kernel_rfl) (by kernel_rfl) (by kernel_rfl) (some 54) rfl (Or.inl ⟨by rfl, ?_⟩) (fun _ _ _ h => h) (by assumption) ?_
      rotate_left
      · intro w hSw; (try dsimp only at hSw); go_simp; (try with_reducible rfl)
      simp only [Act.put, List.setIfInBounds_toArray, List.set_cons_zero, List.set_cons_succ]
      refine takeR (i := 24) (v := ?_) rfl (by kernel_rfl) (by kernel_rfl) (by kernel_rfl) (some 55) rfl (Or.inl ⟨by rfl, ?_⟩) (fun _ _ _ h => h) (by assumption) ?_
      rotate_left
      · intro w hSw; (try dsimp only at hSw); go_simp; (try with_reducible rfl)
      simp only [Act.put, List.setIfInBounds_toArray, List.set_cons_zero, List.set_cons_succ]
      refine wpAnyH_ready (rs := [25]) (by kernel_rfl) (by simp) (AllReadyH.cons rfl (fun K hK => ?_) AllReadyH.nil)
      go_simp
      refine (awake6_any _).mono ?_
      rintro e w9 ⟨rfl, b9⟩
      refine hK.out _ _ (keepP4 b9 hHeld) (fun hHeld => ?_)
      clear hK K
      try simp only [Act.put, List.setIfInBounds_toArray, List.set_cons_zero, List.set_cons_succ]
      refine takeR (i := 26) (v := ?_) rfl (by kernel_rfl) (by kernel_rfl) (by kernel_rfl) (some 57) rfl (Or.inl ⟨by rfl, ?_⟩) (fun _ _ _ h => h) (by assumption) ?_
      rotate_left
      · intro w hSw; (try dsimp only at hSw); go_simp; (try with_reducible rfl)
      simp only [Act.put, List.setIfInBounds_toArray, List.set_cons_zero, List.set_cons_succ]
      refine takeR (i := 27) (v := ?_) rfl (by kernel_rfl) (by kernel_rfl) (by kernel_rfl) (some 6) rfl (Or.inl ⟨by rfl, ?_⟩) (fun _ _ _ h => h) (by assumption) ?_
      rotate_left
      · intro w hSw; (try dsimp only at hSw); go_simp; (try with_reducible rfl)
      simp only [Act.put, List.setIfInBounds_toArray, List.set_cons_zero, List.set_cons_succ]
      refine wpAnyH_done (by kernel_rfl) ?_ _
      have bel := hHeld.2.2.2.2
      clear hHeld
      go_wp2_with fail
      go_ret
      exact ⟨rfl, BV.out.trans (bel.mono BV.out.size)⟩

end Go.Proofs.Ytickphnfgaibiaa
