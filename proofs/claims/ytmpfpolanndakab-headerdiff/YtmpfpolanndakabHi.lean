import Derived.Test.YtmpfpolanndakabProg
import Derived.Test.YtmpfpolanndakabK
import Derived.Test.YtmpfpolanndakabG
import Derived.Test.YtmpfpolanndakabW
import Derived.Test.YtmpfpolanndakabFe
import Derived.Test.YtmpfpolanndakabFf
import Derived.Test.YtmpfpolanndakabHa
import Derived.Test.YtmpfpolanndakabHc
import Derived.Test.YtmpfpolanndakabHh
import Derived.Below
import Derived.BigQuiet
import Derived.BigRegion
import Derived.ChangeAlike
import Derived.ChangeKeysEq
import Derived.ChangeSame
import Derived.DataElems
import Derived.Deep.MidRow
import Derived.Deep.QuietTactic
import Derived.Deep.RegionHeld
import Derived.Deep.RegionHeld3
import Derived.Deep.RegionLaw
import Derived.Deep.RegionLawGrows
import Derived.Deep.RegionWith
import Derived.Deep.WholeRow
import Derived.Great.BuildSlice
import Derived.Handy
import Derived.Laws.AppendOwn
import Derived.Laws.AppendOwnNone
import Derived.Laws.BitsAllLaws
import Derived.Laws.BitsLemmas
import Derived.Laws.CopyOwn
import Derived.Laws.OwnMore
import Derived.Laws.Rows
import Derived.Laws.StructEq
import Derived.Lib.SmallJoins
import Derived.OpenShut
import Derived.ProofKit
import Derived.RegionTactic
import Derived.WalkKit
import Derived.WalkLawsBesides
import Derived.WalkSmall
import Derived.WalkSpells
import Derived.WideShapes
namespace Go.Proofs.Ytmpfpolanndakab
open Go Go.RowKit
set_option linter.unusedVariables false
set_option linter.unusedSimpArgs false

set_option maxRecDepth 100000 in
set_option maxHeartbeats 2000000 in
theorem diff_any (l m : List (Nat × Nat)) (hl : isH l) (hm : isH m) (w : World) :
    Calls Try.prog 4 #[hv l, hv m] w fun e w' => ∃ u, e = .returned u ∧ w'.ownsRow (w.heap.size + 2) 3 1 u (diffK l m 24).length (i64s (diffK l m 24)) ∧ Below w.heap.size w w' := by
  unfold hv
  obtain ⟨i0, hi0, hz0, hz1, hz2⟩ := info_parts info3
  have HI : Hid (Try.prog.info? 3 = some i0 ∧ i0.zero = some (.int .i64 0) ∧ i0.size = 1 ∧ i0.bytes = 8) := ⟨hi0, hz0, hz1, hz2⟩
  clear hi0 hz0 hz1 hz2
  go_enter Try.func4, Try.ntmps4
  go_wp2
  have hA : Hid (HB ((w.alloc (.cells (wdc l).toArray 26)).alloc (.cells (wdc m).toArray 26)) w.heap.size l) := hide_ ((HB.new w l).later (by go_grown))
  have hC : Hid (HB ((w.alloc (.cells (wdc l).toArray 26)).alloc (.cells (wdc m).toArray 26)) (w.heap.size + 1) m) := hide_ (by have := HB.new (w.alloc (.cells (wdc l).toArray 26)) m; simpa using this)
  have hB : Hid (Below w.heap.size w ((w.alloc (.cells (wdc l).toArray 26)).alloc (.cells (wdc m).toArray 26))) := hide_ (by go_grown)
  have hO : Hid (World.ownsRow ((w.alloc (.cells (wdc l).toArray 26)).alloc (.cells (wdc m).toArray 26)) (w.heap.size + 2) 3 1 (.slice none 0 0) 0 []) := hide_ ⟨by simp, .inl ⟨rfl, rfl⟩⟩
  generalize (w.alloc (.cells (wdc l).toArray 26)).alloc (.cells (wdc m).toArray 26) = W at *
  go_loopw [5, 7] (fun u i wr => ∃ (k n : Nat) (ua : Option Addr) (uc : Nat), k ≤ 24 ∧ i = .int .i64 k ∧ u = .slice ua n uc ∧ n ≤ k ∧ Hid (n = (diffK l m k).length) ∧ Hid (HB wr w.heap.size l) ∧ Hid (HB wr (w.heap.size + 1) m) ∧ Hid (wr.ownsRow (w.heap.size + 2) 3 1 (.slice ua n uc) n (i64s (diffK l m k))) ∧ Below w.heap.size w wr) (fun _ i _ => 24 - (intOf i).toNat)
  case atStart => exact ⟨0, 0, _, _, Nat.zero_le _, rfl, rfl, Nat.le_refl _, hide_ (by simp [diffK]), hA, hC, by simpa [diffK, i64s] using hO, hB.out⟩
  case round =>
    obtain ⟨k, n, ua, uc, hk, rfl, rfl, hnk, HN, HA, HC, HO, hb⟩ := hrel
    by_cases hlt : k < 24
    · have hlt' : (k : Int) < 24 := by omega
      obtain ⟨p1, p2, hp, _, _⟩ := hl.get hlt
      obtain ⟨q1, q2, hq, _, _⟩ := hm.get hlt
      obtain ⟨c0, c1, _, _⟩ := HA.out.cells hp
      obtain ⟨d0, d1, _, _⟩ := HC.out.cells hq
      have hltC := HC.out.lt
      by_cases e : (p1, p2) = (q1, q2)
      · have HS := hide_ (diffK_same (show l[k]? = m[k]? by rw [hp, hq, e]))
        cases e
        clear hp hq
        go_wp2_with fail
        go_quiet (fail)
        go_wp2
        go_roundw
        case rel => exact ⟨k + 1, n, ua, uc, by omega, by go_num, rfl, by omega, by rw [HS.out]; exact HN, HA, HC, by rw [HS.out]; exact HO, below_drewN hb nq⟩
        case measure => simp [intOf]; omega
      · have HS := hide_ (diffK_more (show ¬ l[k]? = m[k]? by rw [hp, hq]; intro h; exact e (Option.some.inj h)))
        have hcase : (((p1 : Nat) : Int) == (q1 : Int)) = false ∨ (p1 = q1 ∧ (((p2 : Nat) : Int) == (q2 : Int)) = false) := by
          by_cases e1 : p1 = q1
          · subst e1; right; refine ⟨rfl, ?_⟩; simp at e ⊢; omega
          · left; simp; omega
        clear hp hq e
        rcases hcase with g1 | ⟨rfl, g2⟩
        all_goals
          go_wp2_with fail
          go_quiet (fail)
          go_wp2_with (at_builtin; refine wpList_append_new (.tmp 17) (.tmp 19) 27 rfl 3 i0 (.int .i64 0) 1 8 Try.underlying27 HI.out.1 HI.out.2.1 HI.out.2.2.1 HI.out.2.2.2 rfl (by decide) (w.heap.size + 2) (.slice ua n uc) n (i64s (diffK l m k)) (by simp [Act.eval, Act.put]) (wr.drewN nq) HO.out [.int .i64 (k : Int)] _ rfl 1 (by simp) (by simp [Value.oneCell']) (by simp [Act.eval, Act.put]) (by simp [Region.wanted]) (by unfold maxLen; omega) (by omega) (by simp; omega) ?_; intro v1 w1 ho1 hb1; obtain ⟨va, vc, rfl⟩ := own_slice ho1; have hbw : Below (w.heap.size + 2) wr w1 := (below_drewN (Below.refl _ _) nq).trans hb1; clear hb1)
          go_roundw
          case rel => exact ⟨k + 1, n + 1, va, vc, by omega, by go_num, rfl, by omega, by rw [HS.out]; have := HN.out; exact hide_ (by simp; omega), hide_ (HA.out.below hbw (by omega)), hide_ (HC.out.below hbw (by omega)), by rw [HS.out, i64s_app]; exact hide_ ho1, hb.trans (hbw.mono (by omega))⟩
          case measure => simp [intOf]; omega
    · have hlt' : ¬ (k : Int) < 24 := by omega
      have e : k = 24 := by omega
      subst e
      go_wp2
      go_ret
      have hn := HN.out
      subst hn
      exact ⟨_, rfl, HO.out, hb⟩

end Go.Proofs.Ytmpfpolanndakab
