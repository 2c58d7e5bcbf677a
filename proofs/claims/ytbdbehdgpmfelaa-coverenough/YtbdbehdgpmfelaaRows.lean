/-
  No cell of these rows narrows 'for every input' (looked for: loops, veiled, ifaces, maps, wideKeys, modest, calm, conditions, laid).
  DERIVED. THE GIVEN ROWS OF THIS SEAT. 4 by the template 'for every input the law returns true; each argument reads behind the call as it read before'; 0 by the template 'total and deterministic' (their statements: YtbdbehdgpmfelaaTotals.lean).
  GIVEN WITH THE SEED: the statements are not yours to turn. If you find one false, say at which input.
  Laid BY PROGRAM, IN A SANDBOX (cutbox-rows.mjs): the forced cells as the released guide's own fill.sh prints them over the translation 75b7ad080804b702… (all of the seat's roots in one cut). By AI agents, Wed Nov 11 2026. No macro, syntax, notation, axiom, sorry.
-/
import Derived.Test.YtbdbehdgpmfelaaChecked
import GoSem.Claim
import GoSem.ClaimJoined
import GoSem.ClaimMapViews
import Derived.JoinedTies
import Derived.KernelRfl
namespace Go.Proofs.Ytbdbehdgpmfelaa
/- THE CELL 'sum', in the pinned program and in every row, IS THE sha256 OF THE DUMP (.gsa) THAT YtbdbehdgpmfelaaProg.lean LOADS. Nothing in Lean hashes anything: it is a label: what it is worth is what the hold of that sum in a sandbox is worth. -/
noncomputable def Try.pinned : Pinned := { name := "ytbdbehdgpmfelaa", sum := "75b7ad080804b702fbf8c98199e981f16552c335b9c0c71d5ce9435d9008353d", checked := Try.checked }
namespace Rows
def none {H : Type} : Left H := { results := [], args := [] }

/-- 'weirboxlaw08.CoverLooks': WHATEVER THE INPUT: true; the input reads as it did. -/
def coverLooksSpec : ChangeSpec := { name := "coverLooks", fn := fun _ => fun
  | [d1, d2, d3] => { results := [.lit (.bool true)], args := [d1, d2, d3] }
  | _ => none }
def coverLooksRow : OpenClaim := { program := "ytbdbehdgpmfelaa", sum := "75b7ad080804b702fbf8c98199e981f16552c335b9c0c71d5ce9435d9008353d", func := "weirbox/weirboxlaw08.CoverLooks", spec := "coverLooks", unfollowed := true, recurses := true, apart := false }
def CoverLooksSaid : Prop := coverLooksRow.holds Try.pinned (OpenSpec.ofChange coverLooksSpec)

/-- ITS FALSE NEIGHBOUR: 'it returns false'. Refute it at one input. -/
def coverLooksWrong : ChangeSpec := { name := "coverLooks", fn := fun _ => fun
  | [d1, d2, d3] => { results := [.lit (.bool false)], args := [d1, d2, d3] }
  | _ => none }
def CoverLooksWrongFalsely : Prop := coverLooksRow.holds Try.pinned (OpenSpec.ofChange coverLooksWrong)

/-- 'weirboxlaw08.CoverMeets': WHATEVER THE INPUT: true; the input reads as it did. -/
def coverMeetsSpec : ChangeSpec := { name := "coverMeets", fn := fun _ => fun
  | [d1, d2] => { results := [.lit (.bool true)], args := [d1, d2] }
  | _ => none }
def coverMeetsRow : OpenClaim := { program := "ytbdbehdgpmfelaa", sum := "75b7ad080804b702fbf8c98199e981f16552c335b9c0c71d5ce9435d9008353d", func := "weirbox/weirboxlaw08.CoverMeets", spec := "coverMeets", unfollowed := true, recurses := true, apart := false }
def CoverMeetsSaid : Prop := coverMeetsRow.holds Try.pinned (OpenSpec.ofChange coverMeetsSpec)

/-- ITS FALSE NEIGHBOUR: 'it returns false'. Refute it at one input. -/
def coverMeetsWrong : ChangeSpec := { name := "coverMeets", fn := fun _ => fun
  | [d1, d2] => { results := [.lit (.bool false)], args := [d1, d2] }
  | _ => none }
def CoverMeetsWrongFalsely : Prop := coverMeetsRow.holds Try.pinned (OpenSpec.ofChange coverMeetsWrong)

/-- 'weirboxlaw08.CoverTells': WHATEVER THE INPUT: true; the input reads as it did. -/
def coverTellsSpec : ChangeSpec := { name := "coverTells", fn := fun _ => fun
  | [d1, d2, d3, d4] => { results := [.lit (.bool true)], args := [d1, d2, d3, d4] }
  | _ => none }
def coverTellsRow : OpenClaim := { program := "ytbdbehdgpmfelaa", sum := "75b7ad080804b702fbf8c98199e981f16552c335b9c0c71d5ce9435d9008353d", func := "weirbox/weirboxlaw08.CoverTells", spec := "coverTells", unfollowed := true, recurses := true, apart := false }
def CoverTellsSaid : Prop := coverTellsRow.holds Try.pinned (OpenSpec.ofChange coverTellsSpec)

/-- ITS FALSE NEIGHBOUR: 'it returns false'. Refute it at one input. -/
def coverTellsWrong : ChangeSpec := { name := "coverTells", fn := fun _ => fun
  | [d1, d2, d3, d4] => { results := [.lit (.bool false)], args := [d1, d2, d3, d4] }
  | _ => none }
def CoverTellsWrongFalsely : Prop := coverTellsRow.holds Try.pinned (OpenSpec.ofChange coverTellsWrong)

/-- 'weirboxlaw08.CoverEnough': WHATEVER THE INPUT: true; the input reads as it did. -/
def coverEnoughSpec : ChangeSpec := { name := "coverEnough", fn := fun _ => fun
  | [d1, d2, d3] => { results := [.lit (.bool true)], args := [d1, d2, d3] }
  | _ => none }
def coverEnoughRow : OpenClaim := { program := "ytbdbehdgpmfelaa", sum := "75b7ad080804b702fbf8c98199e981f16552c335b9c0c71d5ce9435d9008353d", func := "weirbox/weirboxlaw08.CoverEnough", spec := "coverEnough", unfollowed := true, recurses := true, apart := false }
def CoverEnoughSaid : Prop := coverEnoughRow.holds Try.pinned (OpenSpec.ofChange coverEnoughSpec)

/-- ITS FALSE NEIGHBOUR: 'it returns false'. Refute it at one input. -/
def coverEnoughWrong : ChangeSpec := { name := "coverEnough", fn := fun _ => fun
  | [d1, d2, d3] => { results := [.lit (.bool false)], args := [d1, d2, d3] }
  | _ => none }
def CoverEnoughWrongFalsely : Prop := coverEnoughRow.holds Try.pinned (OpenSpec.ofChange coverEnoughWrong)

/- THE SECOND FORM. 'bulk': how many values and letters a reading holds, each counted each time it is reached (what is shared counts as often as it is met; a slice's spare places count too). A statement '..UptoSaid' is the law's where the arguments, and the package variables that the reading takes, are together of bulk at most 1048576: NARROWER than '..Said'. Prove '..Said' where nothing that the law and all that it calls make is longer than what came in: it says more and counts as full. Else prove '..UptoSaid'. A law counts once. -/
mutual
def uptoBulk {H : Type} : DataW H → Nat
  | .lit (.string bytes) => bytes.length + 1
  | .lit _ => 1
  | .nil => 1
  | .ptr d => uptoBulk d + 1
  | .slice elems spare => uptoBulkAll elems + uptoBulkAll spare + 1
  | .agg parts => uptoBulkAll parts + 1
  | .iface _ d => uptoBulk d + 1
  | .map entries => uptoBulkEntries entries + 1
  | .held _ => 1
def uptoBulkAll {H : Type} : List (DataW H) → Nat
  | [] => 0
  | d :: r => uptoBulk d + uptoBulkAll r
def uptoBulkEntries {H : Type} : List (Lit × DataW H) → Nat
  | [] => 0
  | x :: r => uptoBulkEntry x + uptoBulkEntries r
def uptoBulkEntry {H : Type} : Lit × DataW H → Nat
  | (.string bytes, d) => bytes.length + uptoBulk d + 1
  | (_, d) => uptoBulk d + 1
 end
def uptoSmall : (H : Type) → List (DataW H) → Bool := fun _ ds => decide (uptoBulkAll ds ≤ 1048576)
def OpenSpec.upto (s : _root_.Go.ChangeSpec) : _root_.Go.OpenSpec := { _root_.Go.OpenSpec.ofChange s with cond := some uptoSmall }

/-- 'weirboxlaw08.CoverLooks', WHERE WHAT IT READS IS OF BULK AT MOST 1048576: true; the input reads as it did. -/
def coverLooksUptoRow : OpenClaim := { program := "ytbdbehdgpmfelaa", sum := "75b7ad080804b702fbf8c98199e981f16552c335b9c0c71d5ce9435d9008353d", func := "weirbox/weirboxlaw08.CoverLooks", spec := "coverLooks", unfollowed := true, recurses := true, apart := false, narrowed := true }
def CoverLooksUptoSaid : Prop := coverLooksUptoRow.holds Try.pinned (OpenSpec.upto coverLooksSpec)

/-- 'weirboxlaw08.CoverMeets', WHERE WHAT IT READS IS OF BULK AT MOST 1048576: true; the input reads as it did. -/
def coverMeetsUptoRow : OpenClaim := { program := "ytbdbehdgpmfelaa", sum := "75b7ad080804b702fbf8c98199e981f16552c335b9c0c71d5ce9435d9008353d", func := "weirbox/weirboxlaw08.CoverMeets", spec := "coverMeets", unfollowed := true, recurses := true, apart := false, narrowed := true }
def CoverMeetsUptoSaid : Prop := coverMeetsUptoRow.holds Try.pinned (OpenSpec.upto coverMeetsSpec)

/-- 'weirboxlaw08.CoverTells', WHERE WHAT IT READS IS OF BULK AT MOST 1048576: true; the input reads as it did. -/
def coverTellsUptoRow : OpenClaim := { program := "ytbdbehdgpmfelaa", sum := "75b7ad080804b702fbf8c98199e981f16552c335b9c0c71d5ce9435d9008353d", func := "weirbox/weirboxlaw08.CoverTells", spec := "coverTells", unfollowed := true, recurses := true, apart := false, narrowed := true }
def CoverTellsUptoSaid : Prop := coverTellsUptoRow.holds Try.pinned (OpenSpec.upto coverTellsSpec)

/-- 'weirboxlaw08.CoverEnough', WHERE WHAT IT READS IS OF BULK AT MOST 1048576: true; the input reads as it did. -/
def coverEnoughUptoRow : OpenClaim := { program := "ytbdbehdgpmfelaa", sum := "75b7ad080804b702fbf8c98199e981f16552c335b9c0c71d5ce9435d9008353d", func := "weirbox/weirboxlaw08.CoverEnough", spec := "coverEnough", unfollowed := true, recurses := true, apart := false, narrowed := true }
def CoverEnoughUptoSaid : Prop := coverEnoughUptoRow.holds Try.pinned (OpenSpec.upto coverEnoughSpec)

end Rows
end Go.Proofs.Ytbdbehdgpmfelaa
