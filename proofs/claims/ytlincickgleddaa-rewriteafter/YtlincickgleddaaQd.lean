import Derived.Test.YtlincickgleddaaProg
import Derived.Test.YtlincickgleddaaK
import Derived.Test.YtlincickgleddaaFe
import Derived.Test.YtlincickgleddaaHc
import Derived.Test.YtlincickgleddaaGa
import Derived.Test.YtlincickgleddaaTb
import Derived.Test.YtlincickgleddaaQa
import Derived.Test.YtlincickgleddaaQb
import Derived.Test.YtlincickgleddaaQc
import Derived.Below
import Derived.BigQuiet
import Derived.BigRegion
import Derived.ChangeAlike
import Derived.ChangeKeysEq
import Derived.ChangeSame
import Derived.DataElems
import Derived.Deep.MidRow
import Derived.Deep.QuietTactic
import Derived.Deep.RegionHeld
import Derived.Deep.RegionHeld3
import Derived.Deep.RegionLaw
import Derived.Deep.RegionLawGrows
import Derived.Deep.RegionWith
import Derived.Deep.WholeRow
import Derived.Great.BuildSlice
import Derived.Handy
import Derived.Laws.AppendOwn
import Derived.Laws.AppendOwnNone
import Derived.Laws.BitsAllLaws
import Derived.Laws.BitsLemmas
import Derived.Laws.CopyOwn
import Derived.Laws.OwnMore
import Derived.Laws.Rows
import Derived.Laws.StructEq
import Derived.Laws.Tables
import Derived.Lib.BitFns
import Derived.Lib.SmallJoins
import Derived.OpenShut
import Derived.ProofKit
import Derived.RegionTactic
import Derived.WalkKit
import Derived.WalkLawsBesides
import Derived.WalkSmall
import Derived.WalkSpells
import Derived.WideShapes
namespace Go.Proofs.Ytlincickgleddaa
open Go Go.RowKit
set_option linter.unusedVariables false
set_option linter.unusedSimpArgs false

set_option maxRecDepth 100000 in
set_option maxHeartbeats 1000000 in
theorem call_any (w : World) :
    Calls Try.prog 41 #[] w fun e w' => e = .returned (cv z24q) ∧ Below w.heap.size w w' := by
  have Z0 : Hid (AB (w.alloc (.cells (tdc z24q).toArray 29)) w.heap.size 29 (tdc z24q)) := hide_ (by rw [zcC]; exact AB.at0 w 29 (tdc z24q))
  have B0 := hide_ (below1 w (.cells (tdc z24q).toArray 29))
  unfold cv
  obtain ⟨hz0, -⟩ := zero_of_info zC'
  go_enter Try.func41, Try.ntmps41
  go_wp2_with (refine wpList_storeA rfl (.tmp 0) (.tmp 1) rfl w.heap.size (by simp [Act.eval, Act.put]) (tdc z24q) (tdc z24q) rfl (szC z24q_len) (tdc_one _) (by simp [Act.eval, Act.put]) Z0.out ?_)
  exact bodyPost_ret (results_A Try.underlying29 Try.results41 _ _ w.heap.size (tdc z24q) (szC z24q_len) rfl Z0.out.row) rfl ⟨rfl, B0.out.trans (below_row _ _ _ _ (Nat.le_refl _))⟩

theorem cleanC_at (l : List Q4) (k : Nat) (h : k < 24) : (cleanC l)[k]? = some (clean4 (cq l k)) := by
  simp [cleanC, h]

theorem cq_clean (l : List Q4) (k : Nat) (h : k < 24) : cq (cleanC l) k = clean4 (cq l k) := cq_at (cleanC_at l k h)

theorem wdc_set2 : ∀ (l : List (Nat × Nat)) (j a b : Nat), ((wdc l).set (j * 2) (.int .u64 (a : Int))).set (j * 2 + 1) (.int .u64 (b : Int)) = wdc (l.set j (a, b))
  | [], j, a, b => by simp [wdc]
  | p :: l, 0, a, b => by simp [wdc]
  | p :: l, j + 1, a, b => by
    have := wdc_set2 l j a b
    rw [show (j + 1) * 2 = j * 2 + 1 + 1 by omega]
    simp only [wdc, List.set_cons_succ, this]

theorem AB.setp {w : World} {g : Nat} {ty : TypeId} {l : List (Nat × Nat)} (h : AB w g ty (wdc l)) (k a b : Nat) : AB ((w.setCell ⟨g, k * 2, none⟩ (.int .u64 (a : Int))).setCell ⟨g, k * 2 + 1, none⟩ (.int .u64 (b : Int))) g ty (wdc (l.set k (a, b))) := by
  rw [← wdc_set2]
  exact (h.set (j := k * 2) _).set (j := k * 2 + 1) _

theorem zh48 : #[.int .u64 0, .int .u64 0, .int .u64 0, .int .u64 0, .int .u64 0, .int .u64 0, .int .u64 0, .int .u64 0, .int .u64 0, .int .u64 0, .int .u64 0, .int .u64 0, .int .u64 0, .int .u64 0, .int .u64 0, .int .u64 0, .int .u64 0, .int .u64 0, .int .u64 0, .int .u64 0, .int .u64 0, .int .u64 0, .int .u64 0, .int .u64 0, .int .u64 0, .int .u64 0, .int .u64 0, .int .u64 0, .int .u64 0, .int .u64 0, .int .u64 0, .int .u64 0, .int .u64 0, .int .u64 0, .int .u64 0, .int .u64 0, .int .u64 0, .int .u64 0, .int .u64 0, .int .u64 0, .int .u64 0, .int .u64 0, .int .u64 0, .int .u64 0, .int .u64 0, .int .u64 0, .int .u64 0, .int .u64 0] = (wdc z24).toArray := by rfl

theorem szW {l : List (Nat × Nat)} (h : l.length = 24) : (Try.prog.info? 31).map (·.size) = some (wdc l).length := by
  have e : (wdc l).length = 48 := by rw [wdc_length, h]
  exact Eq.trans (by kernel_rfl : (Try.prog.info? 31).map (·.size) = some 48) (by rw [e])

theorem take4 (l : List Q4) (k a b c d : Nat) (h : l[k]? = some (a, b, c, d)) : List.take 4 (List.drop (k * 4) (tdc l)) = [.int .u64 (a : Int), .int .u64 (b : Int), .int .u64 (c : Int), .int .u64 (d : Int)] := by
  have hj : k < l.length := (List.getElem?_eq_some_iff.1 h).1
  have e : l[k] = (a, b, c, d) := (List.getElem?_eq_some_iff.1 h).2
  rw [tdc_drop, List.drop_eq_getElem_cons hj, e]
  simp [tdc]

theorem idx44 (l : List Q4) (k a b c d : Nat) (w : World) (hk : k < 24) (hl : l.length = 24) (h : l[k]? = some (a, b, c, d)) : Sem.run Try.prog (Instr.index 29 (.agg (tdc l).toArray) (.int .i64 (k : Int))) w = .ok (.agg #[.int .u64 (a : Int), .int .u64 (b : Int), .int .u64 (c : Int), .int .u64 (d : Int)]) w := by
  have e := take4 l k a b c d h
  have g1 : (0 : Int) ≤ (k : Int) := by omega
  have g2 : (k : Int) < 24 := by omega
  simp [Instr.index, go_sem, g1, g2, hk, e]

end Go.Proofs.Ytlincickgleddaa
