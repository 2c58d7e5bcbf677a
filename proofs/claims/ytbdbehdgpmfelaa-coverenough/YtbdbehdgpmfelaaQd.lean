import Derived.Test.YtbdbehdgpmfelaaProg
import Derived.Test.YtbdbehdgpmfelaaXa
import Derived.Test.YtbdbehdgpmfelaaXb
import Derived.Test.YtbdbehdgpmfelaaXc
import Derived.Test.YtbdbehdgpmfelaaXd
import Derived.Test.YtbdbehdgpmfelaaXe
import Derived.Test.YtbdbehdgpmfelaaXf
import Derived.Test.YtbdbehdgpmfelaaXi
import Derived.Test.YtbdbehdgpmfelaaQc
import Derived.Below
import Derived.BigQuiet
import Derived.BigRegion
import Derived.ChangeAlike
import Derived.ChangeKeysEq
import Derived.ChangeSame
import Derived.DataElems
import Derived.Deep.MidRow
import Derived.Deep.QuietTactic
import Derived.Deep.RegionHeld
import Derived.Deep.RegionHeld3
import Derived.Deep.RegionLaw
import Derived.Deep.RegionLawGrows
import Derived.Deep.RegionWith
import Derived.Deep.WholeRow
import Derived.Great.BuildSlice
import Derived.Handy
import Derived.Laws.AppendOwn
import Derived.Laws.AppendOwnNone
import Derived.Laws.BitsAllLaws
import Derived.Laws.BitsLemmas
import Derived.Laws.CopyOwn
import Derived.Laws.OwnMore
import Derived.Laws.Rows
import Derived.Laws.StructEq
import Derived.Laws.Tables
import Derived.Lib.BitFns
import Derived.Lib.SmallJoins
import Derived.OpenShut
import Derived.ProofKit
import Derived.RegionTactic
import Derived.WalkKit
import Derived.WalkLawsBesides
import Derived.WalkSmall
import Derived.WalkSpells
import Derived.WideShapes
namespace Go.Proofs.Ytbdbehdgpmfelaa
open Go Go.RowKit
set_option linter.unusedVariables false
set_option linter.unusedSimpArgs false

set_option maxRecDepth 100000 in
set_option maxHeartbeats 1000000 in
theorem call_any (w : World) :
    Calls Try.prog 20 #[] w fun e w' => e = .returned (cv z24q) ∧ Below w.heap.size w w' := by
  have Z0 : Hid (AB (w.alloc (.cells (tdc z24q).toArray 28)) w.heap.size 28 (tdc z24q)) := hide_ (by rw [zcC]; exact AB.at0 w 28 (tdc z24q))
  have B0 := hide_ (below1 w (.cells (tdc z24q).toArray 28))
  unfold cv
  obtain ⟨hz0, -⟩ := zero_of_info zC'
  go_enter Try.func20, Try.ntmps20
  go_wp2_with (refine wpList_storeA rfl (.tmp 0) (.tmp 1) rfl w.heap.size (by simp [Act.eval, Act.put]) (tdc z24q) (tdc z24q) rfl (szC z24q_len) (tdc_one _) (by simp [Act.eval, Act.put]) Z0.out ?_)
  exact bodyPost_ret (results_A Try.underlying28 Try.results20 _ _ w.heap.size (tdc z24q) (szC z24q_len) rfl Z0.out.row) rfl ⟨rfl, B0.out.trans (below_row _ _ _ _ (Nat.le_refl _))⟩

def pickC (l : List Q4) : List (Nat × Nat) := (List.range 24).map fun k => ((clean4 (cq l k)).1, (clean4 (cq l k)).2.1)

def pickK (l : List Q4) (k : Nat) : List (Nat × Nat) := (List.range k).map (fun k => ((cq l k).1, (cq l k).2.1)) ++ List.replicate (24 - k) (0, 0)

theorem pickK_len (l : List Q4) (k : Nat) (h : k ≤ 24) : (pickK l k).length = 24 := by simp [pickK]; omega

theorem pickK_at (l : List Q4) (k : Nat) (h : k < 24) : (pickK l k)[k]? = some (0, 0) := by
  unfold pickK
  rw [List.getElem?_append_right (by simp), List.getElem?_replicate]
  simp; omega

theorem pickK_set (l : List Q4) (k : Nat) (h : k < 24) : (pickK l k).set k ((cq l k).1, (cq l k).2.1) = pickK l (k + 1) := by
  unfold pickK
  rw [List.set_append_right _ _ (by simp)]
  have e : 24 - k = (24 - (k + 1)) + 1 := by omega
  rw [e, List.replicate_succ, List.range_succ]
  simp

theorem cleanC_at (l : List Q4) (k : Nat) (h : k < 24) : (cleanC l)[k]? = some (clean4 (cq l k)) := by
  simp [cleanC, h]

theorem cq_clean (l : List Q4) (k : Nat) (h : k < 24) : cq (cleanC l) k = clean4 (cq l k) := cq_at (cleanC_at l k h)

theorem pickK_all (l : List Q4) : pickK (cleanC l) 24 = pickC l := by
  unfold pickK pickC
  simp only [Nat.sub_self, List.replicate_zero, List.append_nil]
  apply List.map_congr_left
  intro k hk
  rw [cq_clean l k (List.mem_range.1 hk)]

theorem wdc_set2 : ∀ (l : List (Nat × Nat)) (j a b : Nat), ((wdc l).set (j * 2) (.int .u64 (a : Int))).set (j * 2 + 1) (.int .u64 (b : Int)) = wdc (l.set j (a, b))
  | [], j, a, b => by simp [wdc]
  | p :: l, 0, a, b => by simp [wdc]
  | p :: l, j + 1, a, b => by
    have := wdc_set2 l j a b
    rw [show (j + 1) * 2 = j * 2 + 1 + 1 by omega]
    simp only [wdc, List.set_cons_succ, this]

theorem AB.setp {w : World} {g : Nat} {ty : TypeId} {l : List (Nat × Nat)} (h : AB w g ty (wdc l)) (k a b : Nat) : AB ((w.setCell ⟨g, k * 2, none⟩ (.int .u64 (a : Int))).setCell ⟨g, k * 2 + 1, none⟩ (.int .u64 (b : Int))) g ty (wdc (l.set k (a, b))) := by
  rw [← wdc_set2]
  exact (h.set (j := k * 2) _).set (j := k * 2 + 1) _

theorem zh48 : #[.int .u64 0, .int .u64 0, .int .u64 0, .int .u64 0, .int .u64 0, .int .u64 0, .int .u64 0, .int .u64 0, .int .u64 0, .int .u64 0, .int .u64 0, .int .u64 0, .int .u64 0, .int .u64 0, .int .u64 0, .int .u64 0, .int .u64 0, .int .u64 0, .int .u64 0, .int .u64 0, .int .u64 0, .int .u64 0, .int .u64 0, .int .u64 0, .int .u64 0, .int .u64 0, .int .u64 0, .int .u64 0, .int .u64 0, .int .u64 0, .int .u64 0, .int .u64 0, .int .u64 0, .int .u64 0, .int .u64 0, .int .u64 0, .int .u64 0, .int .u64 0, .int .u64 0, .int .u64 0, .int .u64 0, .int .u64 0, .int .u64 0, .int .u64 0, .int .u64 0, .int .u64 0, .int .u64 0, .int .u64 0] = (wdc z24).toArray := by rfl

theorem szW {l : List (Nat × Nat)} (h : l.length = 24) : (Try.prog.info? 33).map (·.size) = some (wdc l).length := by
  have e : (wdc l).length = 48 := by rw [wdc_length, h]
  exact Eq.trans (by kernel_rfl : (Try.prog.info? 33).map (·.size) = some 48) (by rw [e])

theorem take4 (l : List Q4) (k a b c d : Nat) (h : l[k]? = some (a, b, c, d)) : List.take 4 (List.drop (k * 4) (tdc l)) = [.int .u64 (a : Int), .int .u64 (b : Int), .int .u64 (c : Int), .int .u64 (d : Int)] := by
  have hj : k < l.length := (List.getElem?_eq_some_iff.1 h).1
  have e : l[k] = (a, b, c, d) := (List.getElem?_eq_some_iff.1 h).2
  rw [tdc_drop, List.drop_eq_getElem_cons hj, e]
  simp [tdc]

theorem idx44 (l : List Q4) (k a b c d : Nat) (w : World) (hk : k < 24) (hl : l.length = 24) (h : l[k]? = some (a, b, c, d)) : Sem.run Try.prog (Instr.index 28 (.agg (tdc l).toArray) (.int .i64 (k : Int))) w = .ok (.agg #[.int .u64 (a : Int), .int .u64 (b : Int), .int .u64 (c : Int), .int .u64 (d : Int)]) w := by
  have e := take4 l k a b c d h
  have g1 : (0 : Int) ≤ (k : Int) := by omega
  have g2 : (k : Int) < 24 := by omega
  simp [Instr.index, go_sem, g1, g2, hk, e]

set_option maxRecDepth 100000 in
set_option maxHeartbeats 2000000 in
theorem cpick_any (l : List Q4) (hl : isC l) (w : World) :
    Calls Try.prog 33 #[cv l] w fun e w' => e = .returned (hv (pickC l)) ∧ Below w.heap.size w w' := by
  have q := hide_ (fun w => cclean_any l hl w)
  have hlc : (cleanC l).length = 24 := by simp [cleanC]
  have hat := hide_ (fun k (hk : k < 24) => cleanC_at l k hk)
  have hL := hl.1
  rw [← pickK_all l]
  have hcq := hide_ (fun k (hk : k < 24) => cq_clean l k hk)
  have HA := hide_ (((AB.at0 w 28 (tdc l)).alloc (.cells #[.int .u64 0, .int .u64 0, .int .u64 0, .int .u64 0, .int .u64 0, .int .u64 0, .int .u64 0, .int .u64 0, .int .u64 0, .int .u64 0, .int .u64 0, .int .u64 0, .int .u64 0, .int .u64 0, .int .u64 0, .int .u64 0, .int .u64 0, .int .u64 0, .int .u64 0, .int .u64 0, .int .u64 0, .int .u64 0, .int .u64 0, .int .u64 0, .int .u64 0, .int .u64 0, .int .u64 0, .int .u64 0, .int .u64 0, .int .u64 0, .int .u64 0, .int .u64 0, .int .u64 0, .int .u64 0, .int .u64 0, .int .u64 0, .int .u64 0, .int .u64 0, .int .u64 0, .int .u64 0, .int .u64 0, .int .u64 0, .int .u64 0, .int .u64 0, .int .u64 0, .int .u64 0, .int .u64 0, .int .u64 0] 33)).alloc (.cells #[.int .u64 0, .int .u64 0, .int .u64 0, .int .u64 0, .int .u64 0, .int .u64 0, .int .u64 0, .int .u64 0, .int .u64 0, .int .u64 0, .int .u64 0, .int .u64 0, .int .u64 0, .int .u64 0, .int .u64 0, .int .u64 0, .int .u64 0, .int .u64 0, .int .u64 0, .int .u64 0, .int .u64 0, .int .u64 0, .int .u64 0, .int .u64 0, .int .u64 0, .int .u64 0, .int .u64 0, .int .u64 0, .int .u64 0, .int .u64 0, .int .u64 0, .int .u64 0, .int .u64 0, .int .u64 0, .int .u64 0, .int .u64 0, .int .u64 0, .int .u64 0, .int .u64 0, .int .u64 0, .int .u64 0, .int .u64 0, .int .u64 0, .int .u64 0, .int .u64 0, .int .u64 0, .int .u64 0, .int .u64 0] 33))
  have HZ : Hid (AB (((w.alloc (.cells (tdc l).toArray 28)).alloc (.cells #[.int .u64 0, .int .u64 0, .int .u64 0, .int .u64 0, .int .u64 0, .int .u64 0, .int .u64 0, .int .u64 0, .int .u64 0, .int .u64 0, .int .u64 0, .int .u64 0, .int .u64 0, .int .u64 0, .int .u64 0, .int .u64 0, .int .u64 0, .int .u64 0, .int .u64 0, .int .u64 0, .int .u64 0, .int .u64 0, .int .u64 0, .int .u64 0, .int .u64 0, .int .u64 0, .int .u64 0, .int .u64 0, .int .u64 0, .int .u64 0, .int .u64 0, .int .u64 0, .int .u64 0, .int .u64 0, .int .u64 0, .int .u64 0, .int .u64 0, .int .u64 0, .int .u64 0, .int .u64 0, .int .u64 0, .int .u64 0, .int .u64 0, .int .u64 0, .int .u64 0, .int .u64 0, .int .u64 0, .int .u64 0] 33)).alloc (.cells #[.int .u64 0, .int .u64 0, .int .u64 0, .int .u64 0, .int .u64 0, .int .u64 0, .int .u64 0, .int .u64 0, .int .u64 0, .int .u64 0, .int .u64 0, .int .u64 0, .int .u64 0, .int .u64 0, .int .u64 0, .int .u64 0, .int .u64 0, .int .u64 0, .int .u64 0, .int .u64 0, .int .u64 0, .int .u64 0, .int .u64 0, .int .u64 0, .int .u64 0, .int .u64 0, .int .u64 0, .int .u64 0, .int .u64 0, .int .u64 0, .int .u64 0, .int .u64 0, .int .u64 0, .int .u64 0, .int .u64 0, .int .u64 0, .int .u64 0, .int .u64 0, .int .u64 0, .int .u64 0, .int .u64 0, .int .u64 0, .int .u64 0, .int .u64 0, .int .u64 0, .int .u64 0, .int .u64 0, .int .u64 0] 33)) (w.heap.size + 1) 33 (wdc z24)) := hide_ (by rw [zh48]; exact (AB.at1 w (.cells (tdc l).toArray 28) 33 (wdc z24)).alloc _)
  have HY : Hid (AB (((w.alloc (.cells (tdc l).toArray 28)).alloc (.cells #[.int .u64 0, .int .u64 0, .int .u64 0, .int .u64 0, .int .u64 0, .int .u64 0, .int .u64 0, .int .u64 0, .int .u64 0, .int .u64 0, .int .u64 0, .int .u64 0, .int .u64 0, .int .u64 0, .int .u64 0, .int .u64 0, .int .u64 0, .int .u64 0, .int .u64 0, .int .u64 0, .int .u64 0, .int .u64 0, .int .u64 0, .int .u64 0, .int .u64 0, .int .u64 0, .int .u64 0, .int .u64 0, .int .u64 0, .int .u64 0, .int .u64 0, .int .u64 0, .int .u64 0, .int .u64 0, .int .u64 0, .int .u64 0, .int .u64 0, .int .u64 0, .int .u64 0, .int .u64 0, .int .u64 0, .int .u64 0, .int .u64 0, .int .u64 0, .int .u64 0, .int .u64 0, .int .u64 0, .int .u64 0] 33)).alloc (.cells #[.int .u64 0, .int .u64 0, .int .u64 0, .int .u64 0, .int .u64 0, .int .u64 0, .int .u64 0, .int .u64 0, .int .u64 0, .int .u64 0, .int .u64 0, .int .u64 0, .int .u64 0, .int .u64 0, .int .u64 0, .int .u64 0, .int .u64 0, .int .u64 0, .int .u64 0, .int .u64 0, .int .u64 0, .int .u64 0, .int .u64 0, .int .u64 0, .int .u64 0, .int .u64 0, .int .u64 0, .int .u64 0, .int .u64 0, .int .u64 0, .int .u64 0, .int .u64 0, .int .u64 0, .int .u64 0, .int .u64 0, .int .u64 0, .int .u64 0, .int .u64 0, .int .u64 0, .int .u64 0, .int .u64 0, .int .u64 0, .int .u64 0, .int .u64 0, .int .u64 0, .int .u64 0, .int .u64 0, .int .u64 0] 33)) (w.heap.size + 1 + 1) 33 (wdc z24)) := hide_ (by rw [zh48]; exact AB.at2 w (.cells (tdc l).toArray 28) _ 33 (wdc z24))
  have HB := hide_ (below3 w (.cells (tdc l).toArray 28) (.cells #[.int .u64 0, .int .u64 0, .int .u64 0, .int .u64 0, .int .u64 0, .int .u64 0, .int .u64 0, .int .u64 0, .int .u64 0, .int .u64 0, .int .u64 0, .int .u64 0, .int .u64 0, .int .u64 0, .int .u64 0, .int .u64 0, .int .u64 0, .int .u64 0, .int .u64 0, .int .u64 0, .int .u64 0, .int .u64 0, .int .u64 0, .int .u64 0, .int .u64 0, .int .u64 0, .int .u64 0, .int .u64 0, .int .u64 0, .int .u64 0, .int .u64 0, .int .u64 0, .int .u64 0, .int .u64 0, .int .u64 0, .int .u64 0, .int .u64 0, .int .u64 0, .int .u64 0, .int .u64 0, .int .u64 0, .int .u64 0, .int .u64 0, .int .u64 0, .int .u64 0, .int .u64 0, .int .u64 0, .int .u64 0] 33) (.cells #[.int .u64 0, .int .u64 0, .int .u64 0, .int .u64 0, .int .u64 0, .int .u64 0, .int .u64 0, .int .u64 0, .int .u64 0, .int .u64 0, .int .u64 0, .int .u64 0, .int .u64 0, .int .u64 0, .int .u64 0, .int .u64 0, .int .u64 0, .int .u64 0, .int .u64 0, .int .u64 0, .int .u64 0, .int .u64 0, .int .u64 0, .int .u64 0, .int .u64 0, .int .u64 0, .int .u64 0, .int .u64 0, .int .u64 0, .int .u64 0, .int .u64 0, .int .u64 0, .int .u64 0, .int .u64 0, .int .u64 0, .int .u64 0, .int .u64 0, .int .u64 0, .int .u64 0, .int .u64 0, .int .u64 0, .int .u64 0, .int .u64 0, .int .u64 0, .int .u64 0, .int .u64 0, .int .u64 0, .int .u64 0] 33))
  generalize cleanC l = r at *
  have HL := hide_ hL
  have HR := hide_ hlc
  clear hL hlc
  unfold cv at *
  unfold hv at *
  go_enter Try.func33, Try.ntmps33
  go_wp2_with (first | (go_at_call 48; refine (q.out _).mono ?_; rintro e w1 ⟨rfl, b1⟩) | (refine wpList_loadA Try.underlying28 rfl (.tmp 1) rfl w.heap.size (by simp [Act.eval, Act.put]) (tdc l) (szC HL.out) HA.out ?_))
  have bb := HB.out.trans (b1.mono HB.out.size)
  have A1 := hide_ (HY.out.later b1)
  have Z1 := hide_ (HZ.out.later b1)
  clear HA HZ HY HB b1
  go_loopw [4, 5, 8] (fun _ _ i wr => ∃ j : Nat, j ≤ 24 ∧ i = .int .i64 (j : Int) ∧ Hid (AB wr (w.heap.size + 1 + 1) 33 (wdc (pickK r j))) ∧ Hid (AB wr (w.heap.size + 1) 33 (wdc z24)) ∧ Below w.heap.size w wr) (fun _ _ i _ => 24 - (intOf i).toNat)
  case atStart => exact ⟨0, by omega, rfl, A1, Z1, bb⟩
  case round =>
    obtain ⟨j, hj, rfl, HA, HZ, hb⟩ := hrel
    by_cases hlt : j < 24
    · have hlt' : (j : Int) < 24 := by omega
      have hj0 : (0 : Int) ≤ (j : Int) := by omega
      have ha := hat.out j hlt
      have HQ := hide_ (pickK_at r j hlt)
      have HS := pickK_set r j hlt
      rw [cq_at ha] at HS
      generalize clean4 (cq l j) = tj at *
      obtain ⟨a, b, c, d⟩ := tj
      have hix := fun w => idx44 r j a b c d w hlt HR.out ha
      have HS := hide_ HS
      obtain ⟨c0, c1, f0, f1⟩ := (HA.out.alloc (.cells #[.int .u64 (a : Int), .int .u64 (b : Int), .int .u64 (c : Int), .int .u64 (d : Int)] 26)).pair HQ.out
      go_wp2_with fail
      go_roundw
      case rel => exact ⟨j + 1, by omega, by go_num, by rw [← HS.out]; exact hide_ ((HA.out.alloc _).setp j a b), hide_ (((HZ.out.alloc _).far _ (by omega)).far _ (by omega)), ((hb.alloc hb.size _).setCell (p := ⟨w.heap.size + 1 + 1, j * 2, none⟩) (by dsimp only; omega) _).setCell (p := ⟨w.heap.size + 1 + 1, j * 2 + 1, none⟩) (by dsimp only; omega) _⟩
      case measure => simp [intOf]; omega
    · have hlt' : ¬ (j : Int) < 24 := by omega
      have e : j = 24 := by omega
      subst e
      go_wp2_with (first | (refine wpList_loadA Try.underlying33 rfl (.tmp 3) rfl (w.heap.size + 1 + 1) (by simp [Act.eval, Act.put]) (wdc (pickK r 24)) (szW (pickK_len r 24 (Nat.le_refl _))) HA.out ?_) | (refine wpList_storeA rfl (.tmp 2) (.tmp 17) rfl (w.heap.size + 1) (by simp [Act.eval, Act.put]) (wdc z24) (wdc (pickK r 24)) (by rw [wdc_length, wdc_length, pickK_len r 24 (Nat.le_refl _), z24_len]) (szW (pickK_len r 24 (Nat.le_refl _))) (wdc_one _) (by simp [Act.eval, Act.put]) HZ.out ?_))
      exact bodyPost_ret (results_A Try.underlying33 Try.results33 _ _ (w.heap.size + 1) (wdc (pickK r 24)) (szW (pickK_len r 24 (Nat.le_refl _))) rfl HZ.out.row) rfl ⟨rfl, hb.trans (below_row _ _ _ _ (Nat.le_succ _))⟩

def sizeK (l : List Q4) : Nat → Nat
  | 0 => 0
  | k + 1 => sizeK l k + (pc (cq l k).2.2.1 + pc (cq l k).2.2.2)

set_option maxRecDepth 100000 in
set_option maxHeartbeats 2000000 in
theorem csize_any (l : List Q4) (hl : isC l) (w : World) :
    Calls Try.prog 25 #[cv l] w fun e w' => e = .returned (.int .i64 (sizeK l 24 : Nat)) ∧ Below w.heap.size w w' := by
  have HL := hide_ hl
  have HA := hide_ (AB.at0 w 28 (tdc l))
  have HB := hide_ (below1 w (.cells (tdc l).toArray 28))
  clear hl
  obtain ⟨N, hN⟩ : ∃ N : Nat, sizeK l 24 = N := ⟨_, rfl⟩
  have HN := hide_ hN
  rw [hN]
  clear hN
  unfold cv at *
  go_enter Try.func25, Try.ntmps25
  go_wp2_with (refine wpList_loadA Try.underlying28 rfl (.tmp 1) rfl w.heap.size (by simp [Act.eval, Act.put]) (tdc l) (szC HL.out.1) HA.out ?_)
  clear HA
  generalize w.alloc (.cells (tdc l).toArray 28) = W at *
  go_loopw [3, 5, 7] (fun s _ i wr => ∃ j n : Nat, j ≤ 24 ∧ s = .int .i64 (n : Int) ∧ i = .int .i64 (j : Int) ∧ n ≤ j * 128 ∧ Hid (n = sizeK l j) ∧ Below w.heap.size w wr) (fun _ _ i _ => 24 - (intOf i).toNat)
  case atStart => exact ⟨0, 0, by omega, rfl, rfl, by omega, hide_ rfl, HB.out⟩
  case round =>
    obtain ⟨j, n, hj, rfl, rfl, hnj, HS, hb⟩ := hrel
    by_cases hlt : j < 24
    · have hlt' : (j : Int) < 24 := by omega
      have hj0 : (0 : Int) ≤ (j : Int) := by omega
      obtain ⟨a, b, c, d, e, h1, h2, h3, h4⟩ := HL.out.get hlt
      have hix := fun w => idx44 l j a b c d w hlt HL.out.1 e
      have HE : Hid (n + (pc c + pc d) = sizeK l (j + 1)) := hide_ (by rw [sizeK, cq_at e, ← HS.out])
      have q1 := hide_ (fun w => oc_q c w h3)
      have q2 := hide_ (fun w => oc_q d w h4)
      have p1 := pc_le c h3
      have p2 := pc_le d h4
      generalize pc c = s1 at *
      generalize pc d = s2 at *
      clear e h1 h2 h3 h4
      obtain ⟨c0, c1, c2, c3, -⟩ := (AB.at0 wr 26 [.int .u64 (a : Int), .int .u64 (b : Int), .int .u64 (c : Int), .int .u64 (d : Int)]).four
      have bb := hb.alloc hb.size (.cells #[.int .u64 (a : Int), .int .u64 (b : Int), .int .u64 (c : Int), .int .u64 (d : Int)] 26)
      go_wp2_with fail
      generalize wr.alloc (.cells #[.int .u64 (a : Int), .int .u64 (b : Int), .int .u64 (c : Int), .int .u64 (d : Int)] 26) = V at *
      have hw1 : IntKind.i64.wrap ((s1 : Int) + (s2 : Int)) = (s1 : Int) + (s2 : Int) := by rw [IntKind.wrap_i64]; omega
      have hw2 : IntKind.i64.wrap ((n : Int) + ((s1 : Int) + (s2 : Int))) = (n : Int) + ((s1 : Int) + (s2 : Int)) := by rw [IntKind.wrap_i64]; omega
      go_region_held3 (fun w' => w'.cell? ⟨wr.heap.size, 2, none⟩ = some (.int .u64 (c : Int)) ∧ w'.cell? ⟨wr.heap.size, 3, none⟩ = some (.int .u64 (d : Int)) ∧ Below w.heap.size w w')
        (first | (assumption) | (exact ⟨c2, c3, bb.drew⟩) | (exact ⟨c2, c3, bb⟩))
        (first | (go_at_call_of 42 (Value.int IntKind.u64 (c : Int)); refine (q1.out _).mono ?_; rintro e w' ⟨rfl, rfl⟩) | (go_at_call_of 42 (Value.int IntKind.u64 (d : Int)); refine (q2.out _).mono ?_; rintro e w' ⟨rfl, rfl⟩))
      all_goals
        rename_i hH
        have bel := hH.2.2
        clear hH
        go_wp2_with fail
        go_roundw
        case rel => exact ⟨j + 1, n + (s1 + s2), by omega, by go_num, by go_num, by omega, HE, bel⟩
        case measure => simp [intOf]; omega
    · have hlt' : ¬ (j : Int) < 24 := by omega
      have e : j = 24 := by omega
      subst e
      have HE : Hid (n = N) := hide_ (by rw [← HN.out]; exact HS.out)
      go_wp2_with fail
      go_ret
      exact ⟨ret_int (by rw [HE.out]), hb⟩

end Go.Proofs.Ytbdbehdgpmfelaa
