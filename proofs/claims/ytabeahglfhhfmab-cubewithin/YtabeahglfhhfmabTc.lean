import Derived.Test.YtabeahglfhhfmabProg
import Derived.Test.YtabeahglfhhfmabK
import Derived.Test.YtabeahglfhhfmabR
import Derived.Test.YtabeahglfhhfmabHa
import Derived.Test.YtabeahglfhhfmabHr
import Derived.Test.YtabeahglfhhfmabGa
import Derived.Test.YtabeahglfhhfmabTb
import Derived.Below
import Derived.BigQuiet
import Derived.BigRegion
import Derived.ChangeAlike
import Derived.ChangeKeysEq
import Derived.ChangeSame
import Derived.DataElems
import Derived.Deep.MidRow
import Derived.Deep.QuietTactic
import Derived.Deep.RegionHeld
import Derived.Deep.RegionHeld3
import Derived.Deep.RegionLaw
import Derived.Deep.RegionLawGrows
import Derived.Deep.RegionWith
import Derived.Deep.WholeRow
import Derived.Great.BuildSlice
import Derived.Handy
import Derived.Laws.AppendOwn
import Derived.Laws.AppendOwnNone
import Derived.Laws.BitsAllLaws
import Derived.Laws.BitsLemmas
import Derived.Laws.CopyOwn
import Derived.Laws.OwnMore
import Derived.Laws.Rows
import Derived.Laws.StructEq
import Derived.Laws.Tables
import Derived.Lib.BitFns
import Derived.Lib.SmallJoins
import Derived.OpenShut
import Derived.ProofKit
import Derived.RegionTactic
import Derived.WalkKit
import Derived.WalkLawsBesides
import Derived.WalkSmall
import Derived.WalkSpells
import Derived.WideShapes
namespace Go.Proofs.Ytabeahglfhhfmab
open Go Go.RowKit
set_option linter.unusedVariables false
set_option linter.unusedSimpArgs false

theorem tandn_lt (a c : Nat) (h : a < 18446744073709551616) : andn a c < 18446744073709551616 := Nat.lt_of_le_of_lt Nat.and_le_left h

set_option maxRecDepth 100000 in
set_option maxHeartbeats 1000000 in
theorem twithin_any (a b c d a2 b2 c2 d2 : Nat) (w : World) (ha : a < 18446744073709551616) (hb : b < 18446744073709551616) (hc : c < 18446744073709551616) (hd : d < 18446744073709551616) (ha2 : a2 < 18446744073709551616) (hb2 : b2 < 18446744073709551616) (hc2 : c2 < 18446744073709551616) (hd2 : d2 < 18446744073709551616) :
    Calls Try.prog 25 #[td a b c d, td a2 b2 c2 d2] w fun e w' => e = .returned (.bool ((andn c2 c == 0 && andn d2 d == 0) && ((a ^^^ a2) &&& c2 == 0 && (b ^^^ b2) &&& d2 == 0))) ∧ Below w.heap.size w w' := by
  have q1 := hide_ (fun w => less_any c2 d2 c d w hc2 hd2 hc hd)
  have q2 := hide_ (fun w => zero_any (andn c2 c) (andn d2 d) w)
  have q3 := fun w => thas_any a2 b2 c2 d2 a b w ha2 hb2 hc2 hd2 ha hb
  rw [Nat.xor_comm a2 a, Nat.xor_comm b2 b] at q3
  have Q3 := hide_ q3
  clear q3
  generalize ((a ^^^ a2) &&& c2 == 0 && (b ^^^ b2) &&& d2 == 0) = y at *
  generalize hz : (andn c2 c == 0 && andn d2 d == 0) = z at *
  clear hz
  generalize andn c2 c = n1 at *
  generalize andn d2 d = n2 at *
  clear ha hb hc hd ha2 hb2 hc2 hd2
  unfold td at *
  unfold wd at *
  have HA := hide_ ((AB.at0 w 26 [.int .u64 (a : Int), .int .u64 (b : Int), .int .u64 (c : Int), .int .u64 (d : Int)]).alloc (.cells #[.int .u64 (a2 : Int), .int .u64 (b2 : Int), .int .u64 (c2 : Int), .int .u64 (d2 : Int)] 26))
  have HC := hide_ (AB.at1 w (.cells #[.int .u64 (a : Int), .int .u64 (b : Int), .int .u64 (c : Int), .int .u64 (d : Int)] 26) 26 [.int .u64 (a2 : Int), .int .u64 (b2 : Int), .int .u64 (c2 : Int), .int .u64 (d2 : Int)])
  have HB := hide_ (below2 w (.cells #[.int .u64 (a : Int), .int .u64 (b : Int), .int .u64 (c : Int), .int .u64 (d : Int)] 26) (.cells #[.int .u64 (a2 : Int), .int .u64 (b2 : Int), .int .u64 (c2 : Int), .int .u64 (d2 : Int)] 26))
  cases z
  · go_enter Try.func25, Try.ntmps25
    go_wp2_with (first | (go_at_call 7; refine (q1.out _).mono ?_; rintro e w1 ⟨rfl, b1⟩) | (go_at_call 29; refine (q2.out _).mono ?_; rintro e w2 ⟨rfl, b2⟩))
    go_ret
    exact ⟨rfl, HB.out.trans ((b1.trans (b2.mono b1.size)).mono HB.out.size)⟩
  · go_enter Try.func25, Try.ntmps25
    go_wp2_with (first | (go_at_call 7; refine (q1.out _).mono ?_; rintro e w1 ⟨rfl, b1⟩) | (go_at_call 29; refine (q2.out _).mono ?_; rintro e w2 ⟨rfl, b2⟩; have k2 := b1.trans (b2.mono b1.size); obtain ⟨o0, o1, o2, o3, -⟩ := (HA.out.later k2).four; obtain ⟨i0, i1, i2, i3, -⟩ := (HC.out.later k2).four) | (go_at_call 19; refine (Q3.out _).mono ?_; rintro e w3 ⟨rfl, b3⟩))
    go_ret
    exact ⟨by first | rfl | simp, HB.out.trans ((k2.trans (b3.mono k2.size)).mono HB.out.size)⟩

end Go.Proofs.Ytabeahglfhhfmab
