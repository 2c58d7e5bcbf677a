import Derived.Test.YtcfoieaejpdleaaNg
import Derived.Deep.RegionHeld3
import Derived.Deep.RegionWith
import Derived.Deep.MidRow
import Derived.Deep.Cut
import Derived.WalkMore
namespace Go.Proofs.Ytcfoieaejpdleaa
open Go Go.RowKit
set_option linter.unusedVariables false
set_option linter.unusedSimpArgs false
attribute [local go_sem] Oper.semAt_some

theorem flat_pre {pre L : List (List Int)} {x : List Int} (h : pre ++ [x] <+: L) : pre.flatten.length + x.length ≤ L.flatten.length := by
  obtain ⟨s, rfl⟩ := h
  simp
/-- a count in a box -/
def CntT (Bx : Nat) (w : World) (S T : Nat → Prop) (pre : List (List Int)) (W : World) : Prop :=
  (∀ k, S k ∨ T k → Bx < k) ∧ Boxed W Bx 3 (.int .i64 (pre.flatten.length : Int)) ∧ Below w.heap.size w W
theorem CntT.out {Bx : Nat} {w A A' : World} {S T : Nat → Prop} {pre : List (List Int)} (h : CntT Bx w S T pre A) (ho : Out S A A') (hn : w.heap.size ≤ Bx) : CntT Bx w S T pre A' :=
  ⟨h.1, (ho.block Bx h.2.1.lt (fun e => by have := h.1 _ (.inl e); omega)).trans h.2.1, ho.below h.2.2 (Nat.le_refl _) (fun k hk => by have := h.1 k (.inl hk); omega)⟩
theorem CntT.grow {Bx : Nat} {w A A' : World} {S T S' T' : Nat → Prop} {pre : List (List Int)} (h : CntT Bx w S T pre A) (hg : Grew S T S' T' A A') : CntT Bx w S' T' pre A' := by
  have hl := h.2.1.lt
  refine ⟨fun k hk => ?_, (hg.b.block Bx hl).trans h.2.1, h.2.2.trans (hg.b.mono h.2.2.size)⟩
  rcases hk with hk | hk
  · rcases hg.s k hk with hk | hk
    · exact h.1 k (.inl hk)
    · omega
  · rcases hg.t k hk with hk | hk
    · exact h.1 k (.inr hk)
    · omega
set_option maxRecDepth 100000 in
set_option maxHeartbeats 8000000 in
theorem rest_any (v : Value) (b r : List Int) (M : List (List Int)) (w : World) (hB : Bytes w v b) (hl : b.length ≤ 100000000000) (hC : Cuts b M r) :
    Calls Try.prog 14 #[v] w fun e w' => ∃ a c, e = .returned (.slice a r.length c) ∧ Bytes w' (.slice a r.length c) r ∧ Below w.heap.size w w' := by
  obtain ⟨ao, cap, rfl⟩ := hB.short
  have hj := hC.join
  have hlen : M.flatten.length + r.length = b.length := by rw [← hj]; simp
  have hr : b.drop M.flatten.length = r := by rw [← hj]; simp
  have bw := below1 w (.cells #[.int .i64 0] 3)
  have q0 := hide_ (pieces_any (.slice ao b.length cap) b r M (w.alloc (.cells #[.int .i64 0] 3)) (hB.later bw) hC)
  have HB := hide_ hB
  have HR := hide_ hr
  have HJ := hide_ hlen
  have HL := hide_ hl
  clear hB hl hC hr hlen hj
  refine calls_of_wp_marks Try.func14 rfl ?_
  simp only [Try.ntmps14, List.size_toArray, List.length_cons, List.length_nil, Nat.reduceAdd, Nat.reduceSub, Array.replicate_succ, Array.replicate_zero, List.push_toArray, List.append_toArray, List.nil_append, List.cons_append]
  go_wp2_with (go_at_call 24; refine q0.out.mono ?_; rintro e w1 ⟨u, rfl, hs, b1, hz1⟩; have hs := hide_ hs; have b1 := hide_ b1; have hz1 := hide_ hz1)
  have hz2 : w1.heap.size = w.heap.size + 2 := by have := hz1.out; simp at this; omega
  have hbw : Below w.heap.size w w1 := bw.trans (b1.out.mono bw.size)
  have hbx : Boxed w1 w.heap.size 3 (.int .i64 0) := (b1.out.block _ (by simp)).trans (Boxed.new w 3 _)
  refine wp_rangeT (v := u) (by rfl) hs.out (fun k hk => by rcases hk with hk | hk <;> simp at hk <;> omega) (Below.refl _ _) rfl
    (fun S T pre W => CntT w.heap.size w S T pre W ∧ w1.heap.size ≤ W.heap.size ∧ ∀ k, S k ∨ T k → w1.heap.size ≤ k) (fun _ _ _ _ _ => False)
    (fun S x a' W => ∃ xa xc, 0 < x.length ∧ a' = { tmps := #[.slice ao b.length cap, undef, .slice none 0 0, .pointer (some ⟨w.heap.size, 0, none⟩), .slice xa x.length xc, undef, .slice ao b.length cap, u, .slice xa x.length xc, undef, undef, undef, undef, undef, undef, undef, undef, undef, undef, undef, undef, undef, undef], defers := [] })
    (fun S T pre A A' h ho => ⟨h.1.out ho (Nat.le_refl _), Nat.le_trans h.2.1 ho.size, h.2.2⟩) (fun S T S' T' pre A A' h hg => ⟨h.1.grow hg, Nat.le_trans h.2.1 hg.b.size, fun k hk => ?gr⟩) (fun _ _ _ _ _ _ h _ => h)
    (fun S x a' A A' h _ => h) ?start ?assign ?body ?done (fun _ _ _ _ _ _ _ _ _ h => h.elim)
  case gr =>
    rcases hk with hk | hk
    · rcases hg.s k hk with hk | hk
      · exact h.2.2 k (.inl hk)
      · omega
    · rcases hg.t k hk with hk | hk
      · exact h.2.2 k (.inr hk)
      · omega
  case start =>
    intro W hb hsz
    have hk : ∀ k, Books (fun _ => False) w1.heap.size k ∨ False → w1.heap.size ≤ k := by
      rintro k ((hk | hk) | hk)
      · exact hk.elim
      · exact hk.1
      · exact hk.elim
    exact ⟨⟨fun k h => by have := hk k h; omega, (hb.block _ hbx.lt).trans hbx, hbw.trans (hb.mono hbw.size)⟩, hb.size, hk⟩
  case assign =>
    intro l S T pre x args W hpre hi ht
    obtain ⟨g', off', e2, -, -, hx0⟩ := ht
    have HX0 := hide_ hx0
    clear hx0
    subst e2
    have HI := hide_ hi
    clear hi
    refine wpIn_region_of noOut rfl ?_
    go_wp2_with fail
    exact ⟨Keep.refl _ _, HI.out, _, _, HX0.out, rfl⟩
  case body =>
    rintro l S T pre x a' W hpre ⟨⟨hS, hu, hb⟩, hsz, hS1⟩ ⟨xa, xc, hx0, rfl⟩
    have hfl := flat_pre hpre
    have hbl := HJ.out
    have hbm := HL.out
    have hRn : ¬ Kp (fun k => k = (w.alloc (.cells #[.int .i64 0] 3)).heap.size ∨ ((Value.slice ao b.length cap).ownBlock = some k ∧ k < (w.alloc (.cells #[.int .i64 0] 3)).heap.size)) S T w.heap.size := by
      rintro (hk | hk | hk)
      · simp at hk
        cases ao with
        | none => cases hk
        | some ad =>
          have h1 := bytes_lt HB.out (by omega) rfl
          simp [Value.ownBlock] at hk
          omega
      · have := hS _ (.inl hk); omega
      · have := hS _ (.inr hk); omega
    have hsum : (pre ++ [x]).flatten.length = pre.flatten.length + x.length := by simp
    have HS := hide_ hS
    have HSm := hide_ hsum
    have HU := hide_ hu
    have HBB := hide_ hb
    have HSZ := hide_ hsz
    have HS1 := hide_ hS1
    have HRn := hide_ hRn
    have c0 := hu.cell
    have f0 := hu.frozen
    have hm1 : ((pre.flatten.length : Nat) : Int) + (x.length : Int) ≤ 100000000000 := by omega
    clear hS hu hb hsz hS1 hRn hsum hfl hbl hbm
    generalize pre.flatten.length = m at *
    have HU2 := hide_ (HU.out.set (.int .i64 ((m : Int) + (x.length : Int))))
    refine wpIn_block ?_
    refine wpIn_region_of (noOutB noOutT_) rfl ?_
    go_wp2_with fail
    exact ⟨Keep.setCell (p := ⟨w.heap.size, 0, none⟩) HRn.out _, ⟨⟨HS.out, by rw [HSm.out]; exact HU2.out, HBB.out.setCell (p := ⟨w.heap.size, 0, none⟩) (Nat.le_refl _) _⟩, by simp [World.setCell]; exact HSZ.out, HS1.out⟩⟩
  case done =>
    rintro D S T W hD hSD ⟨⟨hS, hu, hb⟩, hsz, hS1⟩ hK
    have c0 := hu.cell
    have hbl := HJ.out
    have hbm := HL.out
    have hBW := HB.out.later hb
    obtain ⟨ao', s1, s2, hB2⟩ := bytes_slice hBW M.flatten.length (by omega)
    rw [HR.out] at hB2
    have hn : b.length - M.flatten.length = r.length := by omega
    rw [hn] at s1 s2 hB2
    have q2 := hide_ (bclone_any _ r W hB2 (by omega))
    have HI := hide_ hB2.isB_
    have HK := hide_ hK
    have HBB := hide_ hb
    have hDn := (hS D (.inl hSD))
    have g0 : (0 : Int) ≤ (M.flatten.length : Int) := by omega
    have g1 : (M.flatten.length : Int) ≤ (b.length : Int) := by omega
    clear hS hu hb hsz hS1 hK hB2 hBW hbl hn
    generalize M.flatten.length = m at *
    go_wp2_with (go_at_call 22; refine q2.out.mono ?_; rintro e w2 ⟨u2, rfl, ho, b2⟩; have h2 := hide_ (Bytes.ofOwn ho HI.out); obtain ⟨a2, c2, hre⟩ := h2.out.short; subst hre; obtain ⟨t1, t2⟩ := bytes_taken h2.out r.length (Nat.le_refl _); have t2 := hide_ t2; have HK2 := hide_ ((b2.block D (Array.getElem?_eq_some_iff.1 HK.out).1).trans HK.out); have hown := hide_ ho; clear ho)
    refine marksR (marks_ret HK2.out (results_tmp rfl _ _ _) ?_)
    rw [List.take_length] at t2
    refine ⟨_, _, rfl, bytes_of_cells t2.out (fun h0 ad e => ?_), ?_⟩
    · have h3 := own_block_lt hown.out (by rw [e]; rfl)
      refine World.putObj_heap_other (fun e4 => ?_)
      have h4 := (Array.getElem?_eq_some_iff.1 HK.out).1
      omega
    · exact (Out.putObj (S := fun k => k = D) (.deferred none) rfl).below (HBB.out.trans (b2.mono HBB.out.size)) (Nat.le_refl _) (fun k hk => by subst hk; omega)

end Go.Proofs.Ytcfoieaejpdleaa
