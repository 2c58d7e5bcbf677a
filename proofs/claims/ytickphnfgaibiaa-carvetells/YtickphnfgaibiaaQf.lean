import Derived.Test.YtickphnfgaibiaaProg
import Derived.Test.YtickphnfgaibiaaK
import Derived.Test.YtickphnfgaibiaaR
import Derived.Test.YtickphnfgaibiaaS
import Derived.Test.YtickphnfgaibiaaFe
import Derived.Test.YtickphnfgaibiaaHa
import Derived.Test.YtickphnfgaibiaaHc
import Derived.Test.YtickphnfgaibiaaHf
import Derived.Test.YtickphnfgaibiaaHg
import Derived.Test.YtickphnfgaibiaaHr
import Derived.Test.YtickphnfgaibiaaHu
import Derived.Test.YtickphnfgaibiaaGa
import Derived.Test.YtickphnfgaibiaaTb
import Derived.Test.YtickphnfgaibiaaQa
import Derived.Test.YtickphnfgaibiaaQb
import Derived.Test.YtickphnfgaibiaaQc
import Derived.Test.YtickphnfgaibiaaQd
import Derived.Test.YtickphnfgaibiaaQe
import Derived.Below
import Derived.BigQuiet
import Derived.BigRegion
import Derived.ChangeAlike
import Derived.ChangeKeysEq
import Derived.ChangeSame
import Derived.DataElems
import Derived.Deep.MidRow
import Derived.Deep.QuietTactic
import Derived.Deep.RegionHeld
import Derived.Deep.RegionHeld3
import Derived.Deep.RegionLaw
import Derived.Deep.RegionLawGrows
import Derived.Deep.RegionWith
import Derived.Deep.WholeRow
import Derived.Great.BuildSlice
import Derived.Handy
import Derived.Laws.AppendOwn
import Derived.Laws.AppendOwnNone
import Derived.Laws.BitsAllLaws
import Derived.Laws.BitsLemmas
import Derived.Laws.CopyOwn
import Derived.Laws.OwnMore
import Derived.Laws.Rows
import Derived.Laws.StructEq
import Derived.Laws.Tables
import Derived.Lib.BitFns
import Derived.Lib.SmallJoins
import Derived.OpenShut
import Derived.ProofKit
import Derived.RegionTactic
import Derived.WalkKit
import Derived.WalkLawsBesides
import Derived.WalkSmall
import Derived.WalkSpells
import Derived.WideShapes
namespace Go.Proofs.Ytickphnfgaibiaa
open Go Go.RowKit
set_option linter.unusedVariables false
set_option linter.unusedSimpArgs false

def hd5 : List (Nat × Nat) := z24.set 0 (0, 5)

def c54 : List Q4 := z24q.set 0 (0, 5, 0, 4)

theorem isH_of (l : List (Nat × Nat)) (h : (decide (l.length = 24) && l.all fun p => decide (p.1 < 18446744073709551616 ∧ p.2 < 18446744073709551616)) = true) : isH l := by
  simp only [Bool.and_eq_true, decide_eq_true_eq, List.all_eq_true] at h
  exact ⟨h.1, fun p hp => h.2 p hp⟩

theorem isC_of (l : List Q4) (h : (decide (l.length = 24) && l.all fun p => decide (p.1 < 18446744073709551616 ∧ p.2.1 < 18446744073709551616 ∧ p.2.2.1 < 18446744073709551616 ∧ p.2.2.2 < 18446744073709551616)) = true) : isC l := by
  simp only [Bool.and_eq_true, decide_eq_true_eq, List.all_eq_true] at h
  exact ⟨h.1, fun p hp => h.2 p hp⟩

theorem hd5_isH : isH hd5 := isH_of _ (by decide +kernel)

theorem c54_isC : isC c54 := isC_of _ (by decide +kernel)

theorem o1_isC : isC (oneC hd5) := isC_of _ (by decide +kernel)

theorem o2_isC : isC (oneC z24) := isC_of _ (by decide +kernel)

theorem aw6_facts : okC (oneC hd5) (oneC z24) = false ∧ hasC c54 hd5 = true ∧ inC (oneC hd5) c54 = true ∧ (pickC c54)[0]? = some (0, 4) ∧ decide (cleanC c54 = c54) = false := by
  refine ⟨by decide +kernel, by decide +kernel, by decide +kernel, by decide +kernel, by decide +kernel⟩

theorem pc_zero : pc 0 = 0 := by rw [pc]; simp

theorem pc_four : pc 4 = 1 := by
  rw [pc, dif_neg (by decide), pc, dif_neg (by decide), pc, dif_neg (by decide)]
  rw [show 4 / 2 / 2 / 2 = 0 from rfl, pc_zero]

theorem size_c54 : sizeK c54 24 = 1 := by
  have h : ∀ k, k < 23 → sizeK c54 (k + 1) = 1 := by
    intro k
    induction k with
    | zero => intro _; rw [sizeK, sizeK, show cq c54 0 = (0, 5, 0, 4) from rfl]; dsimp only; rw [pc_zero, pc_four]
    | succ k ih =>
      intro hk
      rw [sizeK, ih (by omega)]
      have : cq c54 (k + 1) = (0, 0, 0, 0) := by
        unfold cq c54 z24q
        rw [List.getD_eq_getElem?_getD, List.getElem?_set_ne (by omega), List.getElem?_replicate]
        split <;> rfl
      rw [this]; dsimp only; rw [pc_zero]
  rw [show 24 = 22 + 1 + 1 from rfl, sizeK, h 22 (by omega)]
  rw [show cq c54 (22 + 1) = (0, 0, 0, 0) from rfl]; dsimp only; rw [pc_zero]

theorem idx46 (l : List (Nat × Nat)) (hl : l.length = 24) (p : Nat × Nat) (h : l[0]? = some p) (w : World) : (Instr.index 30 (.agg (wdc l).toArray) (.int .i64 0)).run Try.prog w = .ok (.agg #[.int .u64 (p.1 : Int), .int .u64 (p.2 : Int)]) w := by
  obtain ⟨i, hi, hs⟩ := info39'
  have hp := part39 (wdc l).toArray (0 * 2) w
  rw [ext39 l 0 p h] at hp
  simp [Instr.index, run_underlying Try.underlying30 w, asIntOf, asAgg, sizeOf, typeInfo, hi, hs, hp]

theorem zero_next (w3 : World) (M : List Q4) : AB (((w3.alloc (.cells Try.zeroCells28 28)).setRow w3.heap.size (tdc M).toArray).alloc (.cells Try.zeroCells28 28)) (w3.heap.size + 1) 28 (tdc z24q) := by
  have e : ((w3.alloc (.cells Try.zeroCells28 28)).setRow w3.heap.size (tdc M).toArray).heap.size = w3.heap.size + 1 := by simp
  have h1 := AB.new ((w3.alloc (.cells Try.zeroCells28 28)).setRow w3.heap.size (tdc M).toArray) 28 (tdc z24q)
  rw [e, ← zcC] at h1
  exact h1

theorem keepQ {w0 wa wb : World} {g f : Nat} {cs ds : List Value} (k : Below wa.heap.size wa wb) (h : wa.rangeAt g 0 cs ∧ wa.rangeAt f 0 ds ∧ Below w0.heap.size w0 wa) : wb.rangeAt g 0 cs ∧ wb.rangeAt f 0 ds ∧ Below w0.heap.size w0 wb :=
  ⟨range_later h.1 k, range_later h.2.1 k, h.2.2.trans (k.mono h.2.2.size)⟩

set_option maxRecDepth 100000 in
set_option maxHeartbeats 4000000 in
theorem awake6_any (w : World) :
    Calls Try.prog 25 #[] w fun e w' => e = .returned (.bool true) ∧ Below w.heap.size w w' := by
  obtain ⟨f1, f2, f3, f4, f5⟩ := aw6_facts
  have q1 : Hid (∀ w, Calls Try.prog 21 #[.agg (wdc hd5).toArray] w fun e w' => e = .returned (.agg (tdc (oneC hd5)).toArray) ∧ Below w.heap.size w w') := hide_ (fun w => cone_any hd5 hd5_isH w)
  have q2 : Hid (∀ w, Calls Try.prog 21 #[.agg #[.int .u64 0, .int .u64 0, .int .u64 0, .int .u64 0, .int .u64 0, .int .u64 0, .int .u64 0, .int .u64 0, .int .u64 0, .int .u64 0, .int .u64 0, .int .u64 0, .int .u64 0, .int .u64 0, .int .u64 0, .int .u64 0, .int .u64 0, .int .u64 0, .int .u64 0, .int .u64 0, .int .u64 0, .int .u64 0, .int .u64 0, .int .u64 0, .int .u64 0, .int .u64 0, .int .u64 0, .int .u64 0, .int .u64 0, .int .u64 0, .int .u64 0, .int .u64 0, .int .u64 0, .int .u64 0, .int .u64 0, .int .u64 0, .int .u64 0, .int .u64 0, .int .u64 0, .int .u64 0, .int .u64 0, .int .u64 0, .int .u64 0, .int .u64 0, .int .u64 0, .int .u64 0, .int .u64 0, .int .u64 0]] w fun e w' => e = .returned (.agg (tdc (oneC z24)).toArray) ∧ Below w.heap.size w w') := hide_ (fun w => by have := cone_any z24 z24_isH w; unfold hv cv at this; rw [← zh48] at this; exact this)
  have q3 := fun w => cmeet_any (oneC hd5) (oneC z24) o1_isC o2_isC w
  rw [f1] at q3
  have q3 : Hid (∀ w, Calls Try.prog 9 #[.agg (tdc (oneC hd5)).toArray, .agg (tdc (oneC z24)).toArray] w fun e w' => e = .returned (.tuple #[.agg (tdc (meetC (oneC hd5) (oneC z24))).toArray, .bool false]) ∧ Below w.heap.size w w') := hide_ q3
  have q4 := fun w => chas_any c54 hd5 c54_isC hd5_isH w
  rw [f2] at q4
  have q4 : Hid (∀ w, Calls Try.prog 11 #[.agg (tdc c54).toArray, .agg (wdc hd5).toArray] w fun e w' => e = .returned (.bool true) ∧ Below w.heap.size w w') := hide_ q4
  have q5 := fun w => cwithin_any (oneC hd5) c54 o1_isC c54_isC w
  rw [f3] at q5
  have q5 : Hid (∀ w, Calls Try.prog 13 #[.agg (tdc (oneC hd5)).toArray, .agg (tdc c54).toArray] w fun e w' => e = .returned (.bool true) ∧ Below w.heap.size w w') := hide_ q5
  have q6 : Hid (∀ w, Calls Try.prog 15 #[.agg (tdc c54).toArray] w fun e w' => e = .returned (.agg (wdc (pickC c54)).toArray) ∧ Below w.heap.size w w') := hide_ (fun w => cpick_any c54 c54_isC w)
  have q7 := fun w => csize_any c54 c54_isC w
  rw [size_c54] at q7
  have q7 : Hid (∀ w, Calls Try.prog 17 #[.agg (tdc c54).toArray] w fun e w' => e = .returned (.int .i64 1) ∧ Below w.heap.size w w') := hide_ q7
  have q8 : Hid (∀ w, Calls Try.prog 19 #[.agg (tdc c54).toArray] w fun e w' => e = .returned (.agg (tdc (cleanC c54)).toArray) ∧ Below w.heap.size w w') := hide_ (fun w => cclean_any c54 c54_isC w)
  have q9 : Hid (∀ w, Calls Try.prog 23 #[] w fun e w' => e = .returned (.agg Try.zeroCells28) ∧ Below w.heap.size w w') := hide_ (fun w => by rw [zcC]; exact call_any w)
  have r1 := fun w => idx46 (pickC c54) (by simp [pickC]) (0, 4) f4 w
  have r1 : ∀ w, (Instr.index 30 (.agg (wdc (pickC c54)).toArray) (.int .i64 0)).run Try.prog w = .ok (.agg #[.int .u64 0, .int .u64 4]) w := r1
  have r2 : ∀ w, (Instr.field 24 (.agg #[.int .u64 0, .int .u64 4]) 1).run Try.prog w = .ok (.int .u64 4) w := fun w => by rfl
  have r3 := fun w => run_ceqIn (cleanC c54) c54 (by simp [cleanC]) c54_isC.1 w
  rw [f5] at r3
  have r4 := fun w => run_ceqIn z24q z24q z24q_len z24q_len w
  rw [← zcC, decide_eq_true rfl] at r4
  have hM : (meetC (oneC hd5) (oneC z24)).length = 24 := mapB_len _ _
  have hh := hide_ hd5_isH.1
  have hc := hide_ c54_isC.1
  have e5 : Hid ((.agg #[.int .u64 0, .int .u64 5, .int .u64 0, .int .u64 0, .int .u64 0, .int .u64 0, .int .u64 0, .int .u64 0, .int .u64 0, .int .u64 0, .int .u64 0, .int .u64 0, .int .u64 0, .int .u64 0, .int .u64 0, .int .u64 0, .int .u64 0, .int .u64 0, .int .u64 0, .int .u64 0, .int .u64 0, .int .u64 0, .int .u64 0, .int .u64 0, .int .u64 0, .int .u64 0, .int .u64 0, .int .u64 0, .int .u64 0, .int .u64 0, .int .u64 0, .int .u64 0, .int .u64 0, .int .u64 0, .int .u64 0, .int .u64 0, .int .u64 0, .int .u64 0, .int .u64 0, .int .u64 0, .int .u64 0, .int .u64 0, .int .u64 0, .int .u64 0, .int .u64 0, .int .u64 0, .int .u64 0, .int .u64 0] : Value) = .agg (wdc hd5).toArray) := hide_ rfl
  have e54 : Hid ((.agg ((((Try.zeroCells28.setIfInBounds 0 (.int .u64 0)).setIfInBounds 1 (.int .u64 5)).setIfInBounds 2 (.int .u64 0)).setIfInBounds 3 (.int .u64 4)) : Value) = .agg (tdc c54).toArray) := hide_ (by rw [zcC]; rfl)
  have e54s : Hid ((.agg (((((tdc z24q).set 0 (.int .u64 0)).set 1 (.int .u64 5)).set 2 (.int .u64 0)).set 3 (.int .u64 4)).toArray : Value) = .agg (tdc c54).toArray) := hide_ rfl
  have hz96 : (tdc z24q).length = 96 := by rw [tdc_length, z24q_len]
  have HM := hide_ hM
  clear f1 f2 f3 f4 f5 hM
  generalize meetC (oneC hd5) (oneC z24) = M at *
  generalize oneC hd5 = o1 at *
  generalize oneC z24 = o2 at *
  generalize pickC c54 = pk at *
  generalize cleanC c54 = cl at *
  have HZ0 : Hid (AB (w.alloc (.cells #[.int .u64 0, .int .u64 0, .int .u64 0, .int .u64 0, .int .u64 0, .int .u64 0, .int .u64 0, .int .u64 0, .int .u64 0, .int .u64 0, .int .u64 0, .int .u64 0, .int .u64 0, .int .u64 0, .int .u64 0, .int .u64 0, .int .u64 0, .int .u64 0, .int .u64 0, .int .u64 0, .int .u64 0, .int .u64 0, .int .u64 0, .int .u64 0, .int .u64 0, .int .u64 0, .int .u64 0, .int .u64 0, .int .u64 0, .int .u64 0, .int .u64 0, .int .u64 0, .int .u64 0, .int .u64 0, .int .u64 0, .int .u64 0, .int .u64 0, .int .u64 0, .int .u64 0, .int .u64 0, .int .u64 0, .int .u64 0, .int .u64 0, .int .u64 0, .int .u64 0, .int .u64 0, .int .u64 0, .int .u64 0] 30)) w.heap.size 30 (wdc z24)) := hide_ (by rw [zh48]; exact AB.at0 w 30 (wdc z24))
  have hlen5 : Hid ((wdc z24).length = (wdc hd5).length) := hide_ (by rw [wdc_length, wdc_length, hh.out, z24_len])
  generalize hd5 = h at *
  generalize c54 = c at *
  go_enter Try.func25, Try.ntmps25
  go_wp2_with (first | (refine wpList_storeA rfl (.tmp 1) (.tmp 6) rfl w.heap.size (by simp [Act.eval, Act.put]) (wdc z24) (wdc h) hlen5.out (szW hh.out) (wdc_one _) (by first | (simp [Act.eval, Act.put]; exact e5.out) | exact e5.out) HZ0.out ?_) | (refine wpList_loadA Try.underlying30 rfl (.tmp 1) rfl w.heap.size (by simp [Act.eval, Act.put]) (wdc h) (szW hh.out) HZ0.out.row ?_) | (go_at_call_of 21 (wdc h); refine (q1.out _).mono ?_; rintro e w1 ⟨rfl, b1⟩) | (go_at_call 21; refine (q2.out _).mono ?_; rintro e w2 ⟨rfl, b2⟩) | (go_at_call 9; refine (q3.out _).mono ?_; rintro e w3 ⟨rfl, b3⟩; have HM0 : Hid (AB (w3.alloc (.cells Try.zeroCells28 28)) w3.heap.size 28 (tdc z24q)) := hide_ (by rw [zcC]; exact AB.at0 w3 28 (tdc z24q)); have HC0 : Hid (AB (((w3.alloc (.cells Try.zeroCells28 28)).setRow w3.heap.size (tdc M).toArray).alloc (.cells Try.zeroCells28 28)) (w3.heap.size + 1) 28 (tdc z24q)) := hide_ (zero_next w3 M)) | (refine wpList_storeA rfl (.tmp 2) (.tmp 13) rfl w3.heap.size (by simp [Act.eval, Act.put]) (tdc z24q) (tdc M) (by rw [tdc_length, tdc_length, HM.out, z24q_len]) (szC HM.out) (tdc_one _) (by simp [Act.eval, Act.put]) HM0.out ?_) | (refine wpList_storeA rfl (.tmp 4) (.tmp 18) rfl (w3.heap.size + 1) (by simp [Act.eval, Act.put]) (tdc z24q) (tdc c) (by rw [tdc_length, tdc_length, hc.out, z24q_len]) (szC hc.out) (tdc_one _) (by first | (simp [Act.eval, Act.put]; exact e54.out) | exact e54.out | (simp [Act.eval, Act.put]; exact e54s.out) | exact e54s.out | (simp [Act.eval, Act.put]; exact Value.agg.inj e54s.out)) HC0.out ?_))
  have hne : w.heap.size < w3.heap.size := Nat.lt_of_lt_of_le HZ0.out.lt (Nat.le_trans (by simp) (Nat.le_trans b1.size (Nat.le_trans b2.size b3.size)))
  have k0 : Below w.heap.size w ((w.alloc (.cells #[.int .u64 0, .int .u64 0, .int .u64 0, .int .u64 0, .int .u64 0, .int .u64 0, .int .u64 0, .int .u64 0, .int .u64 0, .int .u64 0, .int .u64 0, .int .u64 0, .int .u64 0, .int .u64 0, .int .u64 0, .int .u64 0, .int .u64 0, .int .u64 0, .int .u64 0, .int .u64 0, .int .u64 0, .int .u64 0, .int .u64 0, .int .u64 0, .int .u64 0, .int .u64 0, .int .u64 0, .int .u64 0, .int .u64 0, .int .u64 0, .int .u64 0, .int .u64 0, .int .u64 0, .int .u64 0, .int .u64 0, .int .u64 0, .int .u64 0, .int .u64 0, .int .u64 0, .int .u64 0, .int .u64 0, .int .u64 0, .int .u64 0, .int .u64 0, .int .u64 0, .int .u64 0, .int .u64 0, .int .u64 0] 30)).setRow w.heap.size (wdc h).toArray) := (below1 w (.cells #[.int .u64 0, .int .u64 0, .int .u64 0, .int .u64 0, .int .u64 0, .int .u64 0, .int .u64 0, .int .u64 0, .int .u64 0, .int .u64 0, .int .u64 0, .int .u64 0, .int .u64 0, .int .u64 0, .int .u64 0, .int .u64 0, .int .u64 0, .int .u64 0, .int .u64 0, .int .u64 0, .int .u64 0, .int .u64 0, .int .u64 0, .int .u64 0, .int .u64 0, .int .u64 0, .int .u64 0, .int .u64 0, .int .u64 0, .int .u64 0, .int .u64 0, .int .u64 0, .int .u64 0, .int .u64 0, .int .u64 0, .int .u64 0, .int .u64 0, .int .u64 0, .int .u64 0, .int .u64 0, .int .u64 0, .int .u64 0, .int .u64 0, .int .u64 0, .int .u64 0, .int .u64 0, .int .u64 0, .int .u64 0] 30)).trans (below_row _ _ _ _ (Nat.le_refl _))
  have kA := k0.trans ((b1.trans ((b2.trans (b3.mono b2.size)).mono b1.size)).mono k0.size)
  have k3 : Below w.heap.size w ((((w3.alloc (.cells Try.zeroCells28 28)).setRow w3.heap.size (tdc M).toArray).alloc (.cells Try.zeroCells28 28)).setRow (w3.heap.size + 1) (tdc c).toArray) := ((((kA.alloc kA.size (.cells Try.zeroCells28 28)).trans (below_row _ w3.heap.size _ (tdc M).toArray (by omega))).alloc (by simp; omega) (.cells Try.zeroCells28 28)).trans (below_row _ (w3.heap.size + 1) _ (tdc c).toArray (by omega)))
  have hRh : ((((w3.alloc (.cells Try.zeroCells28 28)).setRow w3.heap.size (tdc M).toArray).alloc (.cells Try.zeroCells28 28)).setRow (w3.heap.size + 1) (tdc c).toArray).rangeAt w.heap.size 0 (wdc h) := ((((((HZ0.out.row (cs' := wdc h)).later (b1.trans ((b2.trans (b3.mono b2.size)).mono b1.size))).alloc (.cells Try.zeroCells28 28)).row_far (tdc M).toArray (by omega)).alloc (.cells Try.zeroCells28 28)).row_far (tdc c).toArray (by omega)).range
  have hRc : ((((w3.alloc (.cells Try.zeroCells28 28)).setRow w3.heap.size (tdc M).toArray).alloc (.cells Try.zeroCells28 28)).setRow (w3.heap.size + 1) (tdc c).toArray).rangeAt (w3.heap.size + 1) 0 (tdc c) := (HC0.out.row (cs' := tdc c)).range
  have HB := hide_ k3
  clear k0 kA k3 HZ0 HC0 HM0 b1 b2 b3 hne
  simp only [Act.put]
  rw [e5.out]
  first | rw [e54.out] | rw [e54s.out] | skip
  clear e5 e54 e54s
  generalize ((((w3.alloc (.cells Try.zeroCells28 28)).setRow w3.heap.size (tdc M).toArray).alloc (.cells Try.zeroCells28 28)).setRow (w3.heap.size + 1) (tdc c).toArray) = W at *
  generalize w3.heap.size + 1 = n at *
  generalize w3.heap.size = n0 at *
  generalize hvz : Value.agg #[.int .u64 0, .int .u64 0, .int .u64 0, .int .u64 0, .int .u64 0, .int .u64 0, .int .u64 0, .int .u64 0, .int .u64 0, .int .u64 0, .int .u64 0, .int .u64 0, .int .u64 0, .int .u64 0, .int .u64 0, .int .u64 0, .int .u64 0, .int .u64 0, .int .u64 0, .int .u64 0, .int .u64 0, .int .u64 0, .int .u64 0, .int .u64 0, .int .u64 0, .int .u64 0, .int .u64 0, .int .u64 0, .int .u64 0, .int .u64 0, .int .u64 0, .int .u64 0, .int .u64 0, .int .u64 0, .int .u64 0, .int .u64 0, .int .u64 0, .int .u64 0, .int .u64 0, .int .u64 0, .int .u64 0, .int .u64 0, .int .u64 0, .int .u64 0, .int .u64 0, .int .u64 0, .int .u64 0, .int .u64 0] = vz at *
  clear hvz
  refine wp_region_held_drew (S := fun w' => w'.rangeAt w.heap.size 0 (wdc h) ∧ w'.rangeAt n 0 (tdc c) ∧ Below W.heap.size W w') (by kernel_rfl) (keepQ (Below.refl _ _).drew ⟨hRh, hRc, Below.refl _ _⟩) (fun hHeld => ?_)
  refine takeR (i := 0) (v := ?_) rfl (by kernel_rfl) (by kernel_rfl) (by kernel_rfl) (some 19) rfl (Or.inl ⟨by rfl, ?_⟩) (fun _ _ _ h => h) (by assumption) ?_
  rotate_left
  · intro w hSw; (try dsimp only at hSw); go_simp; (try with_reducible rfl)
  simp only [Act.put, List.setIfInBounds_toArray, List.set_cons_zero, List.set_cons_succ]
  refine takeR (i := 1) (v := ?_) rfl (by kernel_rfl) (by kernel_rfl) (by kernel_rfl) (some 20) rfl (Or.inl ⟨by rfl, ?_⟩) (fun _ _ _ h => h) (by assumption) ?_
  rotate_left
  · intro w hSw; (try dsimp only at hSw); go_simp; (try with_reducible rfl)
  simp only [Act.put, List.setIfInBounds_toArray, List.set_cons_zero, List.set_cons_succ]
  refine takeR (i := 2) (v := ?_) rfl (by kernel_rfl) (by kernel_rfl) (by kernel_rfl) (some 21) rfl (Or.inl ⟨by rfl, ?_⟩) (fun _ _ _ h => h) (by assumption) ?_
  rotate_left
  · intro w hSw; (try dsimp only at hSw); go_simp; (try with_reducible rfl)
  simp only [Act.put, List.setIfInBounds_toArray, List.set_cons_zero, List.set_cons_succ]
  refine takeL Try.underlying28 (i := 3) rfl (by kernel_rfl) (by kernel_rfl) (by kernel_rfl) (some 22) rfl (.tmp 4) rfl (by rfl) n rfl (tdc c) (szC hc.out) (fun w h => h.2.1) (fun _ _ _ h => h) (by assumption) ?_
  simp only [Act.put, List.setIfInBounds_toArray, List.set_cons_zero, List.set_cons_succ]
  refine takeL Try.underlying30 (i := 4) rfl (by kernel_rfl) (by kernel_rfl) (by kernel_rfl) (some 23) rfl (.tmp 1) rfl (by rfl) w.heap.size rfl (wdc h) (szW hh.out) (fun w h => h.1) (fun _ _ _ h => h) (by assumption) ?_
  simp only [Act.put, List.setIfInBounds_toArray, List.set_cons_zero, List.set_cons_succ]
  refine wpAnyH_ready (rs := [5]) (by kernel_rfl) (by simp) (AllReadyH.cons rfl (fun K hK => ?_) AllReadyH.nil)
  go_simp
  refine (q4.out _).mono ?_
  rintro e w9 ⟨rfl, b9⟩
  refine hK.out _ _ (keepQ b9 hHeld) (fun hHeld => ?_)
  clear hK K
  try simp only [Act.put, List.setIfInBounds_toArray, List.set_cons_zero, List.set_cons_succ]
  refine takeR (i := 6) (v := ?_) rfl (by kernel_rfl) (by kernel_rfl) (by kernel_rfl) (some 25) rfl (Or.inl ⟨by rfl, ?_⟩) (fun _ _ _ h => h) (by assumption) ?_
  rotate_left
  · intro w hSw; (try dsimp only at hSw); go_simp; (try with_reducible rfl)
  simp only [Act.put, List.setIfInBounds_toArray, List.set_cons_zero, List.set_cons_succ]
  refine takeR (i := 7) (v := ?_) rfl (by kernel_rfl) (by kernel_rfl) (by kernel_rfl) (some 26) rfl (Or.inl ⟨by rfl, ?_⟩) (fun _ _ _ h => h) (by assumption) ?_
  rotate_left
  · intro w hSw; (try dsimp only at hSw); go_simp; (try with_reducible rfl)
  simp only [Act.put, List.setIfInBounds_toArray, List.set_cons_zero, List.set_cons_succ]
  refine takeL Try.underlying30 (i := 8) rfl (by kernel_rfl) (by kernel_rfl) (by kernel_rfl) (some 27) rfl (.tmp 1) rfl (by rfl) w.heap.size rfl (wdc h) (szW hh.out) (fun w h => h.1) (fun _ _ _ h => h) (by assumption) ?_
  simp only [Act.put, List.setIfInBounds_toArray, List.set_cons_zero, List.set_cons_succ]
  refine takeL Try.underlying28 (i := 10) rfl (by kernel_rfl) (by kernel_rfl) (by kernel_rfl) (some 29) rfl (.tmp 4) rfl (by rfl) n rfl (tdc c) (szC hc.out) (fun w h => h.2.1) (fun _ _ _ h => h) (by assumption) ?_
  simp only [Act.put, List.setIfInBounds_toArray, List.set_cons_zero, List.set_cons_succ]
  refine wpAnyH_ready (rs := [9]) (by kernel_rfl) (by simp) (AllReadyH.cons rfl (fun K hK => ?_) AllReadyH.nil)
  go_simp
  refine (q1.out _).mono ?_
  rintro e w9 ⟨rfl, b9⟩
  refine hK.out _ _ (keepQ b9 hHeld) (fun hHeld => ?_)
  clear hK K
  try simp only [Act.put, List.setIfInBounds_toArray, List.set_cons_zero, List.set_cons_succ]
  refine wpAnyH_ready (rs := [11]) (by kernel_rfl) (by simp) (AllReadyH.cons rfl (fun K hK => ?_) AllReadyH.nil)
  go_simp
  refine (q5.out _).mono ?_
  rintro e w9 ⟨rfl, b9⟩
  refine hK.out _ _ (keepQ b9 hHeld) (fun hHeld => ?_)
  clear hK K
  try simp only [Act.put, List.setIfInBounds_toArray, List.set_cons_zero, List.set_cons_succ]
  refine takeR (i := 12) (v := ?_) rfl (by kernel_rfl) (by kernel_rfl) (by kernel_rfl) (some 31) rfl (Or.inl ⟨by rfl, ?_⟩) (fun _ _ _ h => h) (by assumption) ?_
  rotate_left
  · intro w hSw; (try dsimp only at hSw); go_simp; (try with_reducible rfl)
  simp only [Act.put, List.setIfInBounds_toArray, List.set_cons_zero, List.set_cons_succ]
  refine takeR (i := 13) (v := ?_) rfl (by kernel_rfl) (by kernel_rfl) (by kernel_rfl) (some 32) rfl (Or.inl ⟨by rfl, ?_⟩) (fun _ _ _ h => h) (by assumption) ?_
  rotate_left
  · intro w hSw; (try dsimp only at hSw); go_simp; (try with_reducible rfl)
  simp only [Act.put, List.setIfInBounds_toArray, List.set_cons_zero, List.set_cons_succ]
  refine takeL Try.underlying28 (i := 14) rfl (by kernel_rfl) (by kernel_rfl) (by kernel_rfl) (some 33) rfl (.tmp 4) rfl (by rfl) n rfl (tdc c) (szC hc.out) (fun w h => h.2.1) (fun _ _ _ h => h) (by assumption) ?_
  simp only [Act.put, List.setIfInBounds_toArray, List.set_cons_zero, List.set_cons_succ]
  refine wpAnyH_ready (rs := [15]) (by kernel_rfl) (by simp) (AllReadyH.cons rfl (fun K hK => ?_) AllReadyH.nil)
  go_simp
  refine (q6.out _).mono ?_
  rintro e w9 ⟨rfl, b9⟩
  refine hK.out _ _ (keepQ b9 hHeld) (fun hHeld => ?_)
  clear hK K
  try simp only [Act.put, List.setIfInBounds_toArray, List.set_cons_zero, List.set_cons_succ]
  refine takeR (i := 16) (v := ?_) rfl (by kernel_rfl) (by kernel_rfl) (by kernel_rfl) (some 35) rfl (Or.inl ⟨by rfl, ?_⟩) (fun _ _ _ h => h) (by assumption) ?_
  rotate_left
  · intro w hSw; (try dsimp only at hSw); go_simp; (try with_reducible rfl)
  simp only [Act.put, List.setIfInBounds_toArray, List.set_cons_zero, List.set_cons_succ]
  refine takeR (i := 17) (v := ?_) rfl (by kernel_rfl) (by kernel_rfl) (by kernel_rfl) (some 36) rfl (Or.inl ⟨by rfl, ?_⟩) (fun _ _ _ h => h) (by assumption) ?_
  rotate_left
  · intro w hSw; (try dsimp only at hSw); go_simp; (try with_reducible rfl)
  simp only [Act.put, List.setIfInBounds_toArray, List.set_cons_zero, List.set_cons_succ]
  refine takeR (i := 18) (v := ?_) rfl (by kernel_rfl) (by kernel_rfl) (by kernel_rfl) (some 37) rfl (Or.inl ⟨by rfl, ?_⟩) (fun _ _ _ h => h) (by assumption) ?_
  rotate_left
  · intro w hSw; (try dsimp only at hSw); go_simp; (try with_reducible rfl)
  simp only [Act.put, List.setIfInBounds_toArray, List.set_cons_zero, List.set_cons_succ]
  refine takeR (i := 19) (v := ?_) rfl (by kernel_rfl) (by kernel_rfl) (by kernel_rfl) (some 38) rfl (Or.inl ⟨by rfl, ?_⟩) (fun _ _ _ h => h) (by assumption) ?_
  rotate_left
  · intro w hSw; (try dsimp only at hSw); go_simp; (try with_reducible rfl)
  simp only [Act.put, List.setIfInBounds_toArray, List.set_cons_zero, List.set_cons_succ]
  refine takeR (i := 20) (v := ?_) rfl (by kernel_rfl) (by kernel_rfl) (by kernel_rfl) (some 39) rfl (Or.inl ⟨by rfl, ?_⟩) (fun _ _ _ h => h) (by assumption) ?_
  rotate_left
  · intro w hSw; (try dsimp only at hSw); go_simp; (try with_reducible rfl)
  simp only [Act.put, List.setIfInBounds_toArray, List.set_cons_zero, List.set_cons_succ]
  refine takeL Try.underlying28 (i := 21) rfl (by kernel_rfl) (by kernel_rfl) (by kernel_rfl) (some 40) rfl (.tmp 4) rfl (by rfl) n rfl (tdc c) (szC hc.out) (fun w h => h.2.1) (fun _ _ _ h => h) (by assumption) ?_
  simp only [Act.put, List.setIfInBounds_toArray, List.set_cons_zero, List.set_cons_succ]
  refine wpAnyH_ready (rs := [22]) (by kernel_rfl) (by simp) (AllReadyH.cons rfl (fun K hK => ?_) AllReadyH.nil)
  go_simp
  refine (q7.out _).mono ?_
  rintro e w9 ⟨rfl, b9⟩
  refine hK.out _ _ (keepQ b9 hHeld) (fun hHeld => ?_)
  clear hK K
  try simp only [Act.put, List.setIfInBounds_toArray, List.set_cons_zero, List.set_cons_succ]
  refine takeR (i := 23) (v := ?_) rfl (by kernel_rfl) (by kernel_rfl) (by kernel_rfl) (some 42) rfl (Or.inl ⟨by rfl, ?_⟩) (fun _ _ _ h => h) (by assumption) ?_
  rotate_left
  · intro w hSw; (try dsimp only at hSw); go_simp; (try with_reducible rfl)
  simp only [Act.put, List.setIfInBounds_toArray, List.set_cons_zero, List.set_cons_succ]
  refine takeR (i := 24) (v := ?_) rfl (by kernel_rfl) (by kernel_rfl) (by kernel_rfl) (some 43) rfl (Or.inl ⟨by rfl, ?_⟩) (fun _ _ _ h => h) (by assumption) ?_
  rotate_left
  · intro w hSw; (try dsimp only at hSw); go_simp; (try with_reducible rfl)
  simp only [Act.put, List.setIfInBounds_toArray, List.set_cons_zero, List.set_cons_succ]
  refine takeR (i := 25) (v := ?_) rfl (by kernel_rfl) (by kernel_rfl) (by kernel_rfl) (some 44) rfl (Or.inl ⟨by rfl, ?_⟩) (fun _ _ _ h => h) (by assumption) ?_
  rotate_left
  · intro w hSw; (try dsimp only at hSw); go_simp; (try with_reducible rfl)
  simp only [Act.put, List.setIfInBounds_toArray, List.set_cons_zero, List.set_cons_succ]
  refine takeL Try.underlying28 (i := 26) rfl (by kernel_rfl) (by kernel_rfl) (by kernel_rfl) (some 45) rfl (.tmp 4) rfl (by rfl) n rfl (tdc c) (szC hc.out) (fun w h => h.2.1) (fun _ _ _ h => h) (by assumption) ?_
  simp only [Act.put, List.setIfInBounds_toArray, List.set_cons_zero, List.set_cons_succ]
  refine takeL Try.underlying28 (i := 28) rfl (by kernel_rfl) (by kernel_rfl) (by kernel_rfl) (some 47) rfl (.tmp 4) rfl (by rfl) n rfl (tdc c) (szC hc.out) (fun w h => h.2.1) (fun _ _ _ h => h) (by assumption) ?_
  simp only [Act.put, List.setIfInBounds_toArray, List.set_cons_zero, List.set_cons_succ]
  refine wpAnyH_ready (rs := [27]) (by kernel_rfl) (by simp) (AllReadyH.cons rfl (fun K hK => ?_) AllReadyH.nil)
  go_simp
  refine (q8.out _).mono ?_
  rintro e w9 ⟨rfl, b9⟩
  refine hK.out _ _ (keepQ b9 hHeld) (fun hHeld => ?_)
  clear hK K
  try simp only [Act.put, List.setIfInBounds_toArray, List.set_cons_zero, List.set_cons_succ]
  refine takeR (i := 29) (v := ?_) rfl (by kernel_rfl) (by kernel_rfl) (by kernel_rfl) (some 48) rfl (Or.inl ⟨by rfl, ?_⟩) (fun _ _ _ h => h) (by assumption) ?_
  rotate_left
  · intro w hSw; (try dsimp only at hSw); go_simp; (try with_reducible rfl)
  simp only [Act.put, List.setIfInBounds_toArray, List.set_cons_zero, List.set_cons_succ]
  refine takeR (i := 30) (v := ?_) rfl (by kernel_rfl) (by kernel_rfl) (by kernel_rfl) (some 49) rfl (Or.inl ⟨by rfl, ?_⟩) (fun _ _ _ h => h) (by assumption) ?_
  rotate_left
  · intro w hSw; (try dsimp only at hSw); go_simp; (try with_reducible rfl)
  simp only [Act.put, List.setIfInBounds_toArray, List.set_cons_zero, List.set_cons_succ]
  refine takeR (i := 31) (v := ?_) rfl (by kernel_rfl) (by kernel_rfl) (by kernel_rfl) (some 50) rfl (Or.inl ⟨by rfl, ?_⟩) (fun _ _ _ h => h) (by assumption) ?_
  rotate_left
  · intro w hSw; (try dsimp only at hSw); go_simp; (try with_reducible rfl)
  simp only [Act.put, List.setIfInBounds_toArray, List.set_cons_zero, List.set_cons_succ]
  refine takeR (i := 33) (v := ?_) rfl (by kernel_rfl) (by kernel_rfl) (by kernel_rfl) (some 52) rfl (Or.inl ⟨by rfl, ?_⟩) (fun _ _ _ h => h) (by assumption) ?_
  rotate_left
  · intro w hSw; (try dsimp only at hSw); go_simp; (try with_reducible rfl)
  simp only [Act.put, List.setIfInBounds_toArray, List.set_cons_zero, List.set_cons_succ]
  refine wpAnyH_ready (rs := [32]) (by kernel_rfl) (by simp) (AllReadyH.cons rfl (fun K hK => ?_) AllReadyH.nil)
  go_simp
  refine (q9.out _).mono ?_
  rintro e w9 ⟨rfl, b9⟩
  refine hK.out _ _ (keepQ b9 hHeld) (fun hHeld => ?_)
  clear hK K
  try simp only [Act.put, List.setIfInBounds_toArray, List.set_cons_zero, List.set_cons_succ]
  refine takeR (i := 34) (v := ?_) rfl (by kernel_rfl) (by kernel_rfl) (by kernel_rfl) (some 53) rfl (Or.inl ⟨by rfl, ?_⟩) (fun _ _ _ h => h) (by assumption) ?_
  rotate_left
  · intro w hSw; (try dsimp only at hSw); go_simp; (try with_reducible rfl)
  simp only [Act.put, List.setIfInBounds_toArray, List.set_cons_zero, List.set_cons_succ]
  refine takeR (i := 35) (v := ?_) rfl (by kernel_rfl) (by kernel_rfl) (by kernel_rfl) (some 54) rfl (Or.inl ⟨by rfl, ?_⟩) (fun _ _ _ h => h) (by assumption) ?_
  rotate_left
  · intro w hSw; (try dsimp only at hSw); go_simp; (try with_reducible rfl)
  simp only [Act.put, List.setIfInBounds_toArray, List.set_cons_zero, List.set_cons_succ]
  refine takeR (i := 36) (v := ?_) rfl (by kernel_rfl) (by kernel_rfl) (by kernel_rfl) (some 0) rfl (Or.inl ⟨by rfl, ?_⟩) (fun _ _ _ h => h) (by assumption) ?_
  rotate_left
  · intro w hSw; (try dsimp only at hSw); go_simp; (try with_reducible rfl)
  simp only [Act.put, List.setIfInBounds_toArray, List.set_cons_zero, List.set_cons_succ]
  refine wpAnyH_done (by kernel_rfl) ?_ _
  have bel := hHeld.2.2
  clear hHeld
  go_wp2_with fail
  go_ret
  exact ⟨rfl, HB.out.trans (bel.mono HB.out.size)⟩

end Go.Proofs.Ytickphnfgaibiaa
