import Derived.Test.YthamnlgjehlndaaGreatQLd
import Derived.Test.YthamnlgjehlndaaGreatKN
import Derived.Test.YthamnlgjehlndaaGreatQVd
import Derived.Test.YthamnlgjehlndaaGreatKy
import Derived.Test.YthamnlgjehlndaaGreatRows
import Derived.Deep.RegionHeld3
import Derived.Deep.RegionWith
import Derived.Deep.MidRow
import Derived.Deep.Cut
import Derived.WalkKit
import Derived.ProofKit
import Derived.OpenShut
import Derived.ShutString
import Derived.ChangeOld
import Derived.Below
import Derived.Lib.SmallJoins
namespace Go.Proofs.YthamnlgjehlndaaGreat
open Go Go.RowKit
set_option linter.unusedVariables false
set_option linter.unusedSimpArgs false

set_option maxRecDepth 100000 in
set_option maxHeartbeats 8000000 in
theorem bcd_gen (ao : Option Addr) (cap : Nat) (l : List Int) (L : List BK) (fx : Bool) (ft fc : Int) (w : World) (g1 : ¬ (70000 : Int) < (l.length : Int))
    (q1 : ∀ W, Below w.heap.size w W → Calls Tryz.prog 33 #[.slice ao l.length cap] W fun e w' => (∃ r, e = .returned (.tuple #[r, .agg #[.bool fx, .int .i64 ft, .int .i64 fc]]) ∧ BuckAt w' r L) ∧ Below W.heap.size W w')
    (q2 : ∀ W, Below w.heap.size w W → Calls Tryz.prog 34 #[.slice ao l.length cap] W fun e w' => (∃ r, e = .returned (.tuple #[r, .agg #[.bool fx, .int .i64 ft, .int .i64 fc]]) ∧ BuckAt w' r L) ∧ Below W.heap.size W w') :
    Calls Tryz.prog 6 #[.slice ao l.length cap] w fun e w' => e = .returned (.bool true) ∧ Below w.heap.size w w' := by
  have aw := hide_ (fun w => awake15_any w)
  have q1 := hide_ q1
  have q2 := hide_ q2
  have qs : Hid (∀ r u W, BuckAt W r L → BuckAt W u L → Calls Tryz.prog 28 #[r, u] W fun e w' => e = .returned (.bool true) ∧ Below W.heap.size W w') := hide_ (fun r u W h1 h2 => by
    have := rblsame_any r u L L W h1 h2
    rwa [sameBL_true rfl] at this)
  have k0 := hide_ (Below.refl w.heap.size w)
  go_enter Tryz.func6, Tryz.ntmps6
  go_wp2_with (first
    | (go_at_call 33; refine (q1.out _ k0.out).mono ?_; rintro e w1 ⟨⟨r1, rfl, h1⟩, b1⟩; have k1 := hide_ (b1.trans ((below1 w1 (.cells #[.bool fx, .int .i64 ft, .int .i64 fc] 44)).mono b1.size)); have h1 := hide_ (h1.later (below1 w1 (.cells #[.bool fx, .int .i64 ft, .int .i64 fc] 44))); have G1 := hide_ (AB.at0 w1 44 [.bool fx, .int .i64 ft, .int .i64 fc]))
    | (go_at_call 34; refine (q2.out _ k1.out).mono ?_; rintro e w2 ⟨⟨r2, rfl, h2⟩, b2⟩; have j2 : Below (w1.alloc (.cells #[.bool fx, .int .i64 ft, .int .i64 fc] 44)).heap.size (w1.alloc (.cells #[.bool fx, .int .i64 ft, .int .i64 fc] 44)) (w2.alloc (.cells #[.bool fx, .int .i64 ft, .int .i64 fc] 44)) := b2.trans ((below1 w2 (.cells #[.bool fx, .int .i64 ft, .int .i64 fc] 44)).mono b2.size); have k2 := hide_ (k1.out.trans (j2.mono k1.out.size)); have h1 := hide_ (h1.out.later j2); have h2 := hide_ (h2.later (below1 w2 (.cells #[.bool fx, .int .i64 ft, .int .i64 fc] 44))); have G1 := hide_ (G1.out.later j2); have G2 := hide_ (AB.at0 w2 44 [.bool fx, .int .i64 ft, .int .i64 fc]))
    | (go_at_call 28; refine (qs.out _ _ _ h1.out h2.out).mono ?_; rintro e w3 ⟨rfl, b3⟩; have k3 := hide_ (k2.out.trans (b3.mono k2.out.size)); obtain ⟨f0, f1, f2, -⟩ := (G1.out.later b3).three; obtain ⟨t0, t1, t2, -⟩ := (G2.out.later b3).three)
    | (go_at_call 24; refine (aw.out _).mono ?_; rintro e w8 ⟨rfl, b8⟩))
  go_ret
  exact ⟨by first | rfl | simp, k3.out.trans (b8.mono k3.out.size)⟩
theorem bcd_dark (ao : Option Addr) (cap n : Nat) (w : World) (g1 : (70000 : Int) < (n : Int)) :
    Calls Tryz.prog 6 #[.slice ao n cap] w fun e w' => e = .returned (.bool true) ∧ Below w.heap.size w w' := by
  have aw := hide_ (fun w => awake15_any w)
  go_enter Tryz.func6, Tryz.ntmps6
  go_wp2_with (go_at_call 24; refine (aw.out _).mono ?_; rintro e w3 ⟨rfl, b3⟩)
  go_ret
  exact ⟨rfl, b3⟩
theorem nnK {e : Ending} {w : World} {f : Value} (h : e = .returned (.tuple #[.slice none 0 0, f])) : ∃ r, e = .returned (.tuple #[r, f]) ∧ BuckAt w r [] := ⟨_, h, BuckAt.nil w⟩

end Go.Proofs.YthamnlgjehlndaaGreat

namespace Go.Proofs.YthamnlgjehlndaaGreat
open Go Go.RowKit
set_option linter.unusedVariables false
set_option linter.unusedSimpArgs false

set_option maxRecDepth 100000 in
set_option maxHeartbeats 8000000 in
theorem bucketDecodes_walk (v : Value) (l : List Int) (w : World) (hB : Bytes w v l) :
    Calls Tryz.prog 6 #[v] w fun e w' => e = .returned (.bool true) ∧ Below w.heap.size w w' := by
  have hiB := hB.isB_
  obtain ⟨ao, cap, rfl, h1⟩ := hB
  have hB : Bytes w (.slice ao l.length cap) l := ⟨ao, cap, rfl, h1⟩
  by_cases g1 : (70000 : Int) < (l.length : Int)
  · exact bcd_dark ao cap l.length w g1
  · by_cases h6 : l.length ≤ 60000
    · rcases bucks_all l.length l (Nat.le_refl _) hiB with ⟨L, h1, h2⟩ | ⟨c, d, h1, h2⟩
      · by_cases hL : L.length ≤ 100
        · exact bcd_gen ao cap l L false 0 0 w g1 (fun W hW => bd_ok _ l L W (hB.later hW) h6 h1 hL) (fun W hW => rbd_ok _ l L W (hB.later hW) h6 h2 hL)
        · exact bcd_gen ao cap l [] true 6 4 w g1 (fun W hW => (bd_many _ l L W (hB.later hW) h6 h1 (by omega)).mono fun e w' h => ⟨nnK h.1, h.2⟩) (fun W hW => (rbd_many _ l L W (hB.later hW) h6 h2 (by omega)).mono fun e w' h => ⟨nnK h.1, h.2⟩)
      · exact bcd_gen ao cap l [] true c d w g1 (fun W hW => (bd_bad _ l c d W (hB.later hW) h6 h1).mono fun e w' h => ⟨nnK h.1, h.2⟩) (fun W hW => (rbd_bad _ l c d W (hB.later hW) h6 h2).mono fun e w' h => ⟨nnK h.1, h.2⟩)
    · exact bcd_gen ao cap l [] true 6 12 w g1 (fun W hW => (bd_big _ l W (hB.later hW) (by omega)).mono fun e w' h => ⟨nnK h.1, h.2⟩) (fun W hW => (rbd_big _ l W (hB.later hW) (by omega)).mono fun e w' h => ⟨nnK h.1, h.2⟩)

end Go.Proofs.YthamnlgjehlndaaGreat

/-
  P15: the buckets that bytes are, or the fault, for all bytes, with no condition
-/
namespace Go.Proofs.YthamnlgjehlndaaGreat.bucketDecodes
open Go.ChangeShapes Go.WideShapes Go.ChangeAt Go.RowKit Go.Joins
set_option linter.unusedVariables false
set_option linter.unusedSimpArgs false

theorem own : ownKnob Tryz.prog.godebug = none := by kernel_rfl
theorem laidOut : laidOutB Tryz.prog = true := by kernel_rfl

/-- WHAT THE WALK IS TOLD OF A SLICE OF INTEGERS THAT CAME IN: it is nil; or it leads to a row of 'cap' cells, the numbers 'zs' (the first 'len' are its elements, the rest its spare room), each fitting its kind. -/
def IsRow (k : IntKind) (w : World) (a : Option Addr) (len cap : Nat) (zs : List Int) : Prop :=
  (a = none ∧ len = 0 ∧ cap = 0 ∧ zs = []) ∨
  ∃ x, a = some x ∧ len ≤ cap ∧ cap ≤ maxLen ∧ zs.length = cap ∧ (∀ i, i < zs.length → w.cell? (x.add i) = some (.int k (zs.getD i 0))) ∧ ∀ n ∈ zs, (Lit.int k n).wf = true
theorem bytes_of_row {w : World} {a : Option Addr} {len cap : Nat} {zs : List Int} (h : IsRow .u8 w a len cap zs) : Bytes w (.slice a len cap) (zs.take len) := by
  rcases h with ⟨rfl, rfl, rfl, rfl⟩ | ⟨x, rfl, hl, hm, hz, hcell, hwz⟩
  · exact Bytes.nil w
  · have hlen : (zs.take len).length = len := by simp; omega
    refine ⟨some x, cap, by rw [hlen], by omega, hm, ?_, (fun e => by cases e), fun ad e j z hj => ?_⟩
    · intro z hz'
      have := hwz z (List.mem_of_mem_take hz')
      have e1 : IntKind.u8.min = 0 := by decide
      have e2 : IntKind.u8.max = 255 := by decide
      simp [Lit.wf, e1, e2] at this
      exact ⟨by omega, by omega⟩
    · cases e
      have hj1 : j < zs.length := by
        have := (List.getElem?_eq_some_iff.1 hj).1
        simp at this; omega
      rw [List.getElem?_take] at hj
      split at hj
      · have h2 := hcell j hj1
        rw [h2, List.getD_eq_getElem?_getD, hj]
        rfl
      · cases hj

set_option maxRecDepth 100000 in
theorem lifted (os : Os) (started : os.Started) (H : Type) (enc : TypeId × Value → H) :
    ReturnsInHanded {} Tryz.checked os 6 .any (Rows.bucketDecodesSpec.pre6 enc Tryz.prog Tryz.f6 Rows.bucketDecodesRow.domain false) (Rows.bucketDecodesSpec.post enc Tryz.prog Tryz.f6 false true false false) := by
  refine returnsInHanded_of_change (C := Tryz.checked) own started (by kernel_rfl) Tryz.func6
    (ChangeSpec.witness6 (enc := enc) (C := Tryz.checked) false ⟨#[], #[.slice none 0 0], []⟩ 8 (by kernel_rfl) (by kernel_rfl) (by kernel_rfl) (by kernel_rfl)) ?_
  intro W base args ds gs before hval0 hW hcnd _
  have hval : ∀ (j : Nat) t v, Tryz.f6.params[j]? = some t → args[j]? = some v → Value.okWide Tryz.prog W .any base t v := hval0
  have hW' := hW
  obtain ⟨p, q, hA0, hV, rfl, hfz, hnd⟩ := hW
  have hA : DataW.TrodAll enc Tryz.prog W 0 (fun _ => true) true Tryz.f6.params.toList args.toList ds p := hA0
  rw [Tryz.params6] at hA hval
  obtain ⟨v0, vs0, d0, ds0, p0, q0, hargs, rfl, rfl, h0, r0⟩ := trodAll_cons hA
  obtain ⟨rfl, rfl, rfl⟩ := trodAll_nil r0
  obtain rfl : args = #[v0] := by cases args; simp_all
  obtain ⟨rfl, rfl⟩ := trodVars_none hV
  have k0 := h0
  have lt0 : ∀ x ∈ p0, x.block < W.heap.size := by obtain ⟨m, hm⟩ := k0; exact DataW.trod_lt m _ _ _ hm
  obtain ⟨a0, len0, cap0, rfl⟩ := okWide_slice Tryz.underlying25 (hval 0 25 v0 rfl rfl)
  obtain ⟨z0, w0⟩ : ∃ zs, IsRow .u8 W a0 len0 cap0 zs := by
    obtain ⟨fuel, hf⟩ := h0
    rcases open_ints Tryz.underlying25 Tryz.underlying5 (by kernel_rfl) hf with ⟨hcs, _⟩ | ⟨x, l, c, zs, hcs, _, hl, hm, hz, _, hcell, hwz⟩
    · simp [Value.cells] at hcs
      obtain ⟨rfl, rfl, rfl⟩ := hcs
      exact ⟨[], .inl ⟨rfl, rfl, rfl, rfl⟩⟩
    · simp [Value.cells] at hcs
      obtain ⟨rfl, rfl, rfl⟩ := hcs
      exact ⟨zs, .inr ⟨_, rfl, hl, hm, by simpa using hz, hcell, hwz⟩⟩
  clear hA0 hval0
  refine (bucketDecodes_walk _ _ _ (bytes_of_row w0)).mono fun e W' ⟨he, bel⟩ => ?_
  subst he
  exact ⟨_, rfl, _, _, _, [], _, [], hW', trodAll_mk1 (shut_bool Tryz.underlying4 _), (trodAll_cons_mk (Below.trod laidOut (by kernel_rfl) (of_decide_eq_true (by kernel_rfl)) k0 bel lt0) trodAll_mk0), rfl, bel.frame _, fun h => by cases h⟩

theorem over : Rows.bucketDecodesRow.holds Tryz.pinned (OpenSpec.ofChange Rows.bucketDecodesSpec) :=
  OpenClaim.holds_of_wide 6 Tryz.f6 rfl rfl rfl rfl rfl rfl rfl ⟨rfl, rfl, rfl, rfl, rfl⟩ rfl rfl rfl rfl rfl (by kernel_rfl) Tryz.func6 (by kernel_rfl)
    (of_decide_eq_true (by kernel_rfl)) (by unfold Func.isWrapper; first | (rw [if_pos (by decide +kernel)]; kernel_rfl) | (rw [if_neg (by decide +kernel)]; exact ⟨rfl, rfl⟩))
    (fun os started H enc _ => lifted os started H enc)

theorem proved : Rows.BucketDecodesSaid := over
#print axioms proved
end Go.Proofs.YthamnlgjehlndaaGreat.bucketDecodes

namespace Go.Proofs.YthamnlgjehlndaaGreat
theorem bucketDecodes_holds : Rows.BucketDecodesSaid := bucketDecodes.proved
end Go.Proofs.YthamnlgjehlndaaGreat

