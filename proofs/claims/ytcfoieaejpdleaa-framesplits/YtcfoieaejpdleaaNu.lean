import Derived.Test.YtcfoieaejpdleaaNp
import Derived.Test.YtcfoieaejpdleaaNo
import Derived.Deep.RegionHeld3
import Derived.Deep.RegionWith
import Derived.Deep.MidRow
import Derived.Deep.Cut
import Derived.WalkMore
namespace Go.Proofs.Ytcfoieaejpdleaa
open Go Go.RowKit
set_option linter.unusedVariables false
set_option linter.unusedSimpArgs false
attribute [local go_sem] Oper.semAt_some

set_option maxHeartbeats 400000 in
theorem bclone_big (v : Value) (l : List Int) (w : World) (hB : Bytes w v l) (hl : l.length ≤ 140737488355328) :
    Calls Try.prog 22 #[v] w fun e w' => ∃ r, e = .returned r ∧ w'.ownsRow w.heap.size 5 1 r l.length (u8s l) ∧ Below w.heap.size w w' := by
  obtain ⟨a, cap, rfl, h1, h2, h3, h4, h5⟩ := hB
  cases a with
  | none =>
    have hc := h4 rfl
    subst hc
    have hl : l = [] := List.eq_nil_of_length_eq_zero (by omega)
    subst hl
    simp only [List.length_nil]
    clear h1 h2 h3 h4 h5
    have hn := fun wx => Lib.run_eql_slice_nil (P := Try.prog) wx 22 5 none 0 0 0 0 Try.underlying22
    go_enter Try.func22, Try.ntmps22
    go_wp2
    go_ret
    exact ⟨_, rfl, World.ownsRow_nil _ _ _ _, Below.refl _ _⟩
  | some ad =>
    have hn := fun wx => Lib.run_eql_slice_nil (P := Try.prog) wx 22 5 (some ad) l.length cap 0 0 Try.underlying22
    have HB : Hid (Bytes w (.slice (some ad) l.length cap) l) := ⟨_, _, rfl, h1, h2, h3, h4, h5⟩
    clear h3 h4 h5
    unfold maxLen at h2
    obtain ⟨i0, hi0, hz0, hz1, hz2⟩ := info_parts info5
    have HI : Hid (Try.prog.info? 5 = some i0 ∧ i0.zero = some (.int .u8 0) ∧ i0.size = 1 ∧ i0.bytes = 1) := ⟨hi0, hz0, hz1, hz2⟩
    clear hi0 hz0 hz1 hz2
    go_enter Try.func22, Try.ntmps22
    go_wp2_with (at_builtin; refine wpList_append_ownB rfl (.tmp 5) (.tmp 6) 22 rfl w.heap.size 5 i0 Try.underlying22 HI.out.1 HI.out.2.1 HI.out.2.2.1 HI.out.2.2.2 (.slice (some ⟨w.heap.size, 0, none⟩) 0 0) 0 [] (by simp [Act.eval, Act.put]) (World.ownsRow_made w #[] 0 (Nat.le_refl _) (Nat.zero_le _) rfl) (.slice (some ad) l.length cap) l (by simp [Act.eval, Act.put]) (HB.out.later (by go_grown)) (by omega) (by simp) ?_; intro v' w' hown hg)
    go_ret
    exact ⟨_, rfl, by simpa using hown, (by go_grown : Below w.heap.size w (w.alloc (.cells #[] 5))).trans (below_grown hg _ (by simp) (by simp [Value.ownBlock]))⟩
set_option maxRecDepth 100000 in
set_option maxHeartbeats 8000000 in
theorem split_dark (v : Value) (b : List Int) (w : World) (hB : Bytes w v b) (hl : b.length ≤ 140737488355328) :
    Calls Try.prog 8 #[v] w fun e w' => (∃ gf lb, e = .returned (.func (.func gf) #[] lb)) ∧ Below w.heap.size w w' := by
  obtain ⟨ao, cap, rfl⟩ := hB.short
  have q1 := hide_ (bclone_big (.slice ao b.length cap) b w hB hl)
  have HI := hide_ hB.isB_
  clear hB hl
  go_enter Try.func8, Try.ntmps8
  go_wp2_with (go_at_call 22; refine q1.out.mono ?_; rintro e w1 ⟨u, rfl, ho, b1⟩; have h1 := hide_ (Bytes.ofOwn ho HI.out); have k1 := hide_ b1; obtain ⟨a1, c1, hre⟩ := h1.out.short; subst hre; clear ho)
  go_ret
  have B1 := below1 w1 (.cells #[.slice a1 b.length c1] 22)
  exact ⟨⟨_, _, rfl⟩, k1.out.trans (B1.mono k1.out.size)⟩

set_option maxRecDepth 100000 in
set_option maxHeartbeats 8000000 in
theorem says_short (v : Value) (b : List Int) (w : World) (hB : Bytes w v b) (h : b.length < 8) :
    Calls Try.prog 25 #[v] w fun e w' => e = .returned (.tuple #[.int .i64 0, .bool false]) ∧ Below w.heap.size w w' := by
  obtain ⟨ao, cap, rfl⟩ := hB.short
  have hm := hB.big
  have h' : (b.length : Int) < 8 := by omega
  clear hB
  go_enter Try.func25, Try.ntmps25
  go_wp2
  go_ret2
  exact ⟨by first | rfl | simp, Below.refl _ _⟩

end Go.Proofs.Ytcfoieaejpdleaa
