import Derived.Test.YtickphnfgaibiabVf
namespace Go.Proofs.Ytickphnfgaibiab
open Go Go.RowKit
set_option linter.unusedVariables false
set_option linter.unusedSimpArgs false

/-- a box holds how many have come -/
def CntI (n0 Bx : Nat) (w : World) (S : Nat → Prop) (pre : List (List Q4)) (W : World) : Prop :=
  (∀ k, S k → Bx < k) ∧ Boxed W Bx 3 (.int .i64 (pre.length : Int)) ∧ Below n0 w W
theorem CntI.out {n0 Bx : Nat} {w A A' : World} {S : Nat → Prop} {pre : List (List Q4)} (h : CntI n0 Bx w S pre A) (ho : Out S A A') (hn : n0 ≤ Bx) (hw : n0 ≤ w.heap.size) : CntI n0 Bx w S pre A' := by
  obtain ⟨hS, hu, hb⟩ := h
  exact ⟨hS, (ho.block Bx hu.lt (fun e => by have := hS _ e; omega)).trans hu, ho.below hb hw (fun k hk => by have := hS k hk; omega)⟩
theorem CntI.grow {n0 Bx : Nat} {w A A' : World} {S : Nat → Prop} {pre : List (List Q4)} (h : CntI n0 Bx w S pre A) (ho : Below A.heap.size A A') (hw : n0 ≤ w.heap.size) : CntI n0 Bx w (Grow S A A') pre A' := by
  obtain ⟨hS, hu, hb⟩ := h
  have hl := hu.lt
  refine ⟨fun k hk => ?_, (ho.block Bx hl).trans hu, hb.trans (ho.mono (by have := hb.size; omega))⟩
  rcases hk with hk | hk
  · exact hS k hk
  · omega

set_option maxRecDepth 100000 in
set_option maxHeartbeats 4000000 in
theorem cmany_any (a b : List Q4) (ha : isC a) (hb : isC b) (w : World) :
    Calls Try.prog 25 #[cv a, cv b] w fun e w' => e = .returned (.int .i64 ((partsC a b).length : Int)) ∧ Below w.heap.size w w' := by
  have q0 := hide_ (fun w => parts_any a b ha hb w)
  have hla := hide_ ha.1
  have hlb := hide_ hb.1
  have HL := hide_ (partsC_isC a b ha)
  have hn := partsC_len a b
  have A0 := hide_ (((AB.at0 w 28 (tdc a)).alloc (.cells (tdc b).toArray 28)).alloc (.cells #[.int .i64 0] 3))
  have C0 := hide_ ((AB.at1 w (.cells (tdc a).toArray 28) 28 (tdc b)).alloc (.cells #[.int .i64 0] 3))
  have N0 : Hid (Boxed (((w.alloc (.cells (tdc a).toArray 28)).alloc (.cells (tdc b).toArray 28)).alloc (.cells #[.int .i64 0] 3)) (w.heap.size + 1 + 1) 3 (.int .i64 0)) := hide_ (by have := Boxed.new ((w.alloc (.cells (tdc a).toArray 28)).alloc (.cells (tdc b).toArray 28)) 3 (.int .i64 0); simpa using this)
  have B0 := hide_ (below3 w (.cells (tdc a).toArray 28) (.cells (tdc b).toArray 28) (.cells #[.int .i64 0] 3))
  generalize partsC a b = L at *
  unfold cv at *
  clear ha hb
  refine calls_of_wp_marks Try.func25 rfl ?_
  simp only [Try.ntmps25, List.size_toArray, List.length_cons, List.length_nil, Nat.reduceAdd, Nat.reduceSub, Array.replicate_succ, Array.replicate_zero, List.push_toArray, List.append_toArray, List.nil_append, List.cons_append]
  go_wp2_with (first | (refine wpList_loadA Try.underlying28 rfl (.tmp 2) rfl w.heap.size (by simp [Act.eval, Act.put]) (tdc a) (szC hla.out) A0.out ?_) | (refine wpList_loadA Try.underlying28 rfl (.tmp 3) rfl (w.heap.size + 1) (by simp [Act.eval, Act.put]) (tdc b) (szC hlb.out) C0.out ?_) | (go_at_call 9; refine (q0.out _).mono ?_; rintro e w1 ⟨v, rfl, hs, b1⟩; have hs := hide_ hs; have b1 := hide_ b1))
  have bw : Below w.heap.size w w1 := B0.out.trans (b1.out.mono B0.out.size)
  have hN1 : Boxed w1 (w.heap.size + 1 + 1) 3 (.int .i64 0) := (b1.out.block _ N0.out.lt).trans N0.out
  have hRB : ∀ k, (((w.alloc (.cells (tdc a).toArray 28)).alloc (.cells (tdc b).toArray 28)).alloc (.cells #[.int .i64 0] 3)).heap.size ≤ k ∧ k < w1.heap.size → w.heap.size + 1 + 1 < k := fun k hk => by have := hk.1; simp at this; omega
  have hs1 := hs.out
  clear hs
  refine wp_rangeX (α := List Q4) (v := v) (by rfl) hs1 (fun k hk => hk.2) (Below.refl _ _) (fun _ => rfl)
    (fun S pre W => CntI w.heap.size (w.heap.size + 1 + 1) w S pre W) (fun _ _ _ _ => False)
    (fun S x a' W => a' = { tmps := #[.agg (tdc a).toArray, .agg (tdc b).toArray, .pointer (some ⟨w.heap.size, 0, none⟩), .pointer (some ⟨w.heap.size + 1, 0, none⟩), .int .i64 0, .pointer (some ⟨w.heap.size + 1 + 1, 0, none⟩), .agg (tdc a).toArray, .agg (tdc b).toArray, v, .agg (tdc x).toArray, undef, undef, undef], defers := [] })
    (fun S pre A A' h ho => h.out ho (by omega) (Nat.le_refl _)) (fun S pre A A' h ho => h.grow ho (Nat.le_refl _)) (fun _ _ _ _ _ h _ => h)
    (fun S x a' A A' h _ => h) ?start ?assign ?body ?done (fun _ _ _ _ _ _ _ _ h => h.elim)
  case start =>
    intro W hb hsz
    refine ⟨fun k hk => ?_, (hb.block _ hN1.lt).trans hN1, bw.trans (hb.mono bw.size)⟩
    rcases hk with hk | hk
    · exact hk.elim
    · have := hN1.lt; omega
  case assign =>
    intro l S pre x W hpre hi
    refine wpIn_skip ?_
    exact ⟨Keep.refl _ _, hi, by simp⟩
  case body =>
    rintro l S pre x a' W hpre ⟨hS, hu, hb⟩ rfl
    have hlen := (pre_mem hpre).2
    have hc0 := hu.cell
    have hf0 := hu.frozen
    have hw1 : IntKind.i64.wrap ((pre.length : Int) + 1) = (pre.length : Int) + 1 := by rw [IntKind.wrap_i64]; omega
    have HS := hide_ hS
    have HU := hide_ hu
    have HB := hide_ hb
    clear hS hu hb
    refine wpIn_block ?_
    refine wpIn_region_of (noOutB noOutP) rfl ?_
    go_wp2_with fail
    refine ⟨Keep.setCell (fun h => ?_) _, HS.out, ?_, HB.out.setCell (p := ⟨w.heap.size + 1 + 1, 0, none⟩) (by dsimp only; omega) _⟩
    · rcases h with h | h
      · have := hRB _ h; dsimp only at this; omega
      · have := HS.out _ h; dsimp only at this; omega
    · have := HU.out.set (.int .i64 ((pre.length : Int) + 1))
      simpa using this
  case done =>
    rintro D S W hD hSD ⟨hS, hu, hb⟩ hK
    have hc := hu.cell
    have HK := hide_ hK
    have HB := hide_ ((Out.putObj (.deferred none) hSD).below hb (Nat.le_refl _) (fun k hk => by have := hS k hk; omega))
    clear hK hb hu hS
    go_wp2_with fail
    exact marksR (marks_ret HK.out (results_tmp rfl _ _ _) ⟨rfl, HB.out⟩)

end Go.Proofs.Ytickphnfgaibiab
