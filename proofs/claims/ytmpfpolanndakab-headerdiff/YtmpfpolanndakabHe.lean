import Derived.Test.YtmpfpolanndakabProg
import Derived.Test.YtmpfpolanndakabK
import Derived.Test.YtmpfpolanndakabG
import Derived.Test.YtmpfpolanndakabR
import Derived.Test.YtmpfpolanndakabW
import Derived.Test.YtmpfpolanndakabFa
import Derived.Test.YtmpfpolanndakabFc
import Derived.Test.YtmpfpolanndakabFe
import Derived.Test.YtmpfpolanndakabFf
import Derived.Test.YtmpfpolanndakabHa
import Derived.Test.YtmpfpolanndakabHc
import Derived.Test.YtmpfpolanndakabHd
import Derived.Below
import Derived.BigQuiet
import Derived.BigRegion
import Derived.ChangeAlike
import Derived.ChangeKeysEq
import Derived.ChangeSame
import Derived.DataElems
import Derived.Deep.MidRow
import Derived.Deep.QuietTactic
import Derived.Deep.RegionHeld
import Derived.Deep.RegionHeld3
import Derived.Deep.RegionLaw
import Derived.Deep.RegionLawGrows
import Derived.Deep.RegionWith
import Derived.Deep.WholeRow
import Derived.Great.BuildSlice
import Derived.Handy
import Derived.Laws.AppendOwn
import Derived.Laws.AppendOwnNone
import Derived.Laws.BitsAllLaws
import Derived.Laws.BitsLemmas
import Derived.Laws.CopyOwn
import Derived.Laws.OwnMore
import Derived.Laws.Rows
import Derived.Laws.StructEq
import Derived.Lib.SmallJoins
import Derived.OpenShut
import Derived.ProofKit
import Derived.RegionTactic
import Derived.WalkKit
import Derived.WalkLawsBesides
import Derived.WalkSmall
import Derived.WalkSpells
import Derived.WideShapes
namespace Go.Proofs.Ytmpfpolanndakab
open Go Go.RowKit
set_option linter.unusedVariables false
set_option linter.unusedSimpArgs false

set_option maxRecDepth 100000 in
set_option maxHeartbeats 2000000 in
theorem clip_any (l : List (Nat × Nat)) (hl : isH l) (w : World) :
    Calls Try.prog 10 #[hv l] w fun e w' => e = .returned (hv (clip l)) ∧ Below w.heap.size w w' := by
  have hcl : Hid ((clip l).length = 24) := hide_ (by simp [clip, hl.1])
  unfold hv
  go_enter Try.func10, Try.ntmps10
  go_wp2
  have hA : Hid (HB ((w.alloc (.cells (wdc l).toArray 26)).alloc (.cells #[.int .u64 0, .int .u64 0, .int .u64 0, .int .u64 0, .int .u64 0, .int .u64 0, .int .u64 0, .int .u64 0, .int .u64 0, .int .u64 0, .int .u64 0, .int .u64 0, .int .u64 0, .int .u64 0, .int .u64 0, .int .u64 0, .int .u64 0, .int .u64 0, .int .u64 0, .int .u64 0, .int .u64 0, .int .u64 0, .int .u64 0, .int .u64 0, .int .u64 0, .int .u64 0, .int .u64 0, .int .u64 0, .int .u64 0, .int .u64 0, .int .u64 0, .int .u64 0, .int .u64 0, .int .u64 0, .int .u64 0, .int .u64 0, .int .u64 0, .int .u64 0, .int .u64 0, .int .u64 0, .int .u64 0, .int .u64 0, .int .u64 0, .int .u64 0, .int .u64 0, .int .u64 0, .int .u64 0, .int .u64 0] 26)) w.heap.size l) := hide_ ((HB.new w l).later (by go_grown))
  have hZ : Hid (HB ((w.alloc (.cells (wdc l).toArray 26)).alloc (.cells #[.int .u64 0, .int .u64 0, .int .u64 0, .int .u64 0, .int .u64 0, .int .u64 0, .int .u64 0, .int .u64 0, .int .u64 0, .int .u64 0, .int .u64 0, .int .u64 0, .int .u64 0, .int .u64 0, .int .u64 0, .int .u64 0, .int .u64 0, .int .u64 0, .int .u64 0, .int .u64 0, .int .u64 0, .int .u64 0, .int .u64 0, .int .u64 0, .int .u64 0, .int .u64 0, .int .u64 0, .int .u64 0, .int .u64 0, .int .u64 0, .int .u64 0, .int .u64 0, .int .u64 0, .int .u64 0, .int .u64 0, .int .u64 0, .int .u64 0, .int .u64 0, .int .u64 0, .int .u64 0, .int .u64 0, .int .u64 0, .int .u64 0, .int .u64 0, .int .u64 0, .int .u64 0, .int .u64 0, .int .u64 0] 26)) (w.heap.size + 1) z24) := hide_ (by have := HB.zero (w.alloc (.cells (wdc l).toArray 26)); simpa using this)
  have hB : Hid (Below w.heap.size w ((w.alloc (.cells (wdc l).toArray 26)).alloc (.cells #[.int .u64 0, .int .u64 0, .int .u64 0, .int .u64 0, .int .u64 0, .int .u64 0, .int .u64 0, .int .u64 0, .int .u64 0, .int .u64 0, .int .u64 0, .int .u64 0, .int .u64 0, .int .u64 0, .int .u64 0, .int .u64 0, .int .u64 0, .int .u64 0, .int .u64 0, .int .u64 0, .int .u64 0, .int .u64 0, .int .u64 0, .int .u64 0, .int .u64 0, .int .u64 0, .int .u64 0, .int .u64 0, .int .u64 0, .int .u64 0, .int .u64 0, .int .u64 0, .int .u64 0, .int .u64 0, .int .u64 0, .int .u64 0, .int .u64 0, .int .u64 0, .int .u64 0, .int .u64 0, .int .u64 0, .int .u64 0, .int .u64 0, .int .u64 0, .int .u64 0, .int .u64 0, .int .u64 0, .int .u64 0] 26))) := hide_ (by go_grown)
  generalize (w.alloc (.cells (wdc l).toArray 26)).alloc (.cells #[.int .u64 0, .int .u64 0, .int .u64 0, .int .u64 0, .int .u64 0, .int .u64 0, .int .u64 0, .int .u64 0, .int .u64 0, .int .u64 0, .int .u64 0, .int .u64 0, .int .u64 0, .int .u64 0, .int .u64 0, .int .u64 0, .int .u64 0, .int .u64 0, .int .u64 0, .int .u64 0, .int .u64 0, .int .u64 0, .int .u64 0, .int .u64 0, .int .u64 0, .int .u64 0, .int .u64 0, .int .u64 0, .int .u64 0, .int .u64 0, .int .u64 0, .int .u64 0, .int .u64 0, .int .u64 0, .int .u64 0, .int .u64 0, .int .u64 0, .int .u64 0, .int .u64 0, .int .u64 0, .int .u64 0, .int .u64 0, .int .u64 0, .int .u64 0, .int .u64 0, .int .u64 0, .int .u64 0, .int .u64 0] 26) = W at *
  go_loopw [4] (fun i wr => ∃ k : Nat, k ≤ 24 ∧ i = .int .i64 k ∧ Hid (HB wr w.heap.size (clipK l k)) ∧ Hid (HB wr (w.heap.size + 1) z24) ∧ Below w.heap.size w wr) (fun i _ => 24 - (intOf i).toNat)
  case atStart => exact ⟨0, Nat.zero_le _, rfl, by rw [clipK_zero]; exact hA, hZ, hB.out⟩
  case round =>
    obtain ⟨k, hk, rfl, HA, HZ, hb⟩ := hrel
    by_cases hlt : k < 24
    · have hlt' : (k : Int) < 24 := by omega
      obtain ⟨x, y, hp, hx, hy⟩ := hl.get hlt
      have hp' : (clipK l k)[k]? = some (x, y) := by rw [clipK_at]; exact hp
      obtain ⟨c0, c1, c2, c3⟩ := HA.out.cells hp'
      have HP := hide_ hp
      have HP' := hide_ hp'
      have q1 := hide_ (fun w => fbits_any (k : Int) w)
      have q2 := hide_ (fun w => lowj k w)
      have q3 := hide_ (fun w => and_any x y (cpH k) (cpL k) w hx hy (cpH_lt k) (cpL_lt k))
      generalize hn : ((fbits (k : Int) : Nat) : Int) = n at q1 q2
      unfold wd at q2 q3
      have HS : Hid ((clipK l k).set k (x &&& cpH k, y &&& cpL k) = clipK l (k + 1)) := hide_ (clipK_step l k _ hp)
      generalize h1 : cpH k = X at q2 q3 HS
      generalize h2 : cpL k = Y at q2 q3 HS
      clear hn h1 h2 hp hp'
      go_wp2_with fail
      go_region_with (first | (go_at_call 15; refine (q1.out _).mono ?_; rintro e w1 ⟨rfl, b1⟩; have d0 := cell_later b1 c0; have d1 := cell_later b1 c1) | (go_at_call 14; refine (q2.out _).mono ?_; rintro e w2 ⟨rfl, b2⟩; have e0 := cell_later b2 d0; have e1 := cell_later b2 d1) | (go_at_call 13; refine (q3.out _).mono ?_; rintro e w3 ⟨rfl, b3⟩; have bb : Below wr.heap.size wr w3 := (((Below.refl _ _).drew.trans b1).trans (b2.mono b1.size)).trans (b3.mono (Nat.le_trans b1.size b2.size)); obtain ⟨f0, f1, f2, f3⟩ := (HA.out.later bb).cells HP'.out))
      all_goals
        go_wp2
        go_roundw
        case rel => exact ⟨k + 1, by omega, by go_num, by rw [← HS.out]; exact hide_ ((HA.out.later bb).set k _ _), hide_ (((HZ.out.later bb).far _ (by omega)).far _ (by omega)), ((hb.trans (bb.mono hb.size)).setCell (Nat.le_refl _) _).setCell (Nat.le_refl _) _⟩
        case measure => simp [intOf]; omega
    · have hlt' : ¬ (k : Int) < 24 := by omega
      have e : k = 24 := by omega
      subst e
      rw [clipK_all l hl.1] at HA
      go_wp2_with (first | (refine wpList_loadH rfl (.tmp 1) rfl w.heap.size (by simp [Act.eval, Act.put]) (clip l) hcl.out HA.out ?_) | (refine wpList_storeH rfl (.tmp 2) (.tmp 17) rfl (w.heap.size + 1) (by simp [Act.eval, Act.put]) z24 (clip l) z24_len hcl.out (by simp [Act.eval, Act.put]) HZ.out ?_; intro w2 h2 b2))
      exact bodyPost_ret (results_H Try.results10 _ _ (w.heap.size + 1) (clip l) hcl.out rfl h2) rfl ⟨rfl, hb.trans (b2 _ (by omega))⟩

end Go.Proofs.Ytmpfpolanndakab
