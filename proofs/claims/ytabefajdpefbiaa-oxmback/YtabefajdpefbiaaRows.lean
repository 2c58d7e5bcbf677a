/-
  No cell of these rows narrows 'for every input' (looked for: loops, veiled, ifaces, maps, wideKeys, modest, calm, conditions, laid).
  DERIVED. THE GIVEN ROWS OF THIS SEAT. 4 by the template 'for every input the law returns true; each argument reads behind the call as it read before'; 0 by the template 'total and deterministic' (their statements: YtabefajdpefbiaaTotals.lean).
  GIVEN WITH THE SEED: the statements are not yours to turn. If you find one false, say at which input.
  Laid BY PROGRAM, IN A SANDBOX (cutbox-rows.mjs): the forced cells as the released guide's own fill.sh prints them over the translation a97eb04b3a3ab1bc… (all of the seat's roots in one cut). By AI agents, Wed Nov 11 2026. No macro, syntax, notation, axiom, sorry.
-/
import Derived.Test.YtabefajdpefbiaaChecked
import GoSem.Claim
import GoSem.ClaimJoined
import GoSem.ClaimMapViews
import Derived.JoinedTies
import Derived.KernelRfl
namespace Go.Proofs.Ytabefajdpefbiaa
/- THE CELL 'sum', in the pinned program and in every row, IS THE sha256 OF THE DUMP (.gsa) THAT YtabefajdpefbiaaProg.lean LOADS. Nothing in Lean hashes anything: it is a label: what it is worth is what the hold of that sum in a sandbox is worth. -/
noncomputable def Try.pinned : Pinned := { name := "ytabefajdpefbiaa", sum := "a97eb04b3a3ab1bc587168dcb4e6790c33ea93690dbb3bd275e36914e2cc7160", checked := Try.checked }
namespace Rows
def none {H : Type} : Left H := { results := [], args := [] }

/-- 'weirboxlaw10.OxmEncodes': WHATEVER THE INPUT: true; the input reads as it did. -/
def oxmEncodesSpec : ChangeSpec := { name := "oxmEncodes", fn := fun _ => fun
  | [d1, d2] => { results := [.lit (.bool true)], args := [d1, d2] }
  | _ => none }
def oxmEncodesRow : OpenClaim := { program := "ytabefajdpefbiaa", sum := "a97eb04b3a3ab1bc587168dcb4e6790c33ea93690dbb3bd275e36914e2cc7160", func := "weirbox/weirboxlaw10.OxmEncodes", spec := "oxmEncodes", unfollowed := true, recurses := true, apart := false }
def OxmEncodesSaid : Prop := oxmEncodesRow.holds Try.pinned (OpenSpec.ofChange oxmEncodesSpec)

/-- ITS FALSE NEIGHBOUR: 'it returns false'. Refute it at one input. -/
def oxmEncodesWrong : ChangeSpec := { name := "oxmEncodes", fn := fun _ => fun
  | [d1, d2] => { results := [.lit (.bool false)], args := [d1, d2] }
  | _ => none }
def OxmEncodesWrongFalsely : Prop := oxmEncodesRow.holds Try.pinned (OpenSpec.ofChange oxmEncodesWrong)

/-- 'weirboxlaw10.OxmDecodes': WHATEVER THE INPUT: true; the input reads as it did. -/
def oxmDecodesSpec : ChangeSpec := { name := "oxmDecodes", fn := fun _ => fun
  | [d] => { results := [.lit (.bool true)], args := [d] }
  | _ => none }
def oxmDecodesRow : OpenClaim := { program := "ytabefajdpefbiaa", sum := "a97eb04b3a3ab1bc587168dcb4e6790c33ea93690dbb3bd275e36914e2cc7160", func := "weirbox/weirboxlaw10.OxmDecodes", spec := "oxmDecodes", unfollowed := true, recurses := true, apart := false }
def OxmDecodesSaid : Prop := oxmDecodesRow.holds Try.pinned (OpenSpec.ofChange oxmDecodesSpec)

/-- ITS FALSE NEIGHBOUR: 'it returns false'. Refute it at one input. -/
def oxmDecodesWrong : ChangeSpec := { name := "oxmDecodes", fn := fun _ => fun
  | [d] => { results := [.lit (.bool false)], args := [d] }
  | _ => none }
def OxmDecodesWrongFalsely : Prop := oxmDecodesRow.holds Try.pinned (OpenSpec.ofChange oxmDecodesWrong)

/-- 'weirboxlaw10.OxmBack': WHATEVER THE INPUT: true; the input reads as it did. -/
def oxmBackSpec : ChangeSpec := { name := "oxmBack", fn := fun _ => fun
  | [d1, d2] => { results := [.lit (.bool true)], args := [d1, d2] }
  | _ => none }
def oxmBackRow : OpenClaim := { program := "ytabefajdpefbiaa", sum := "a97eb04b3a3ab1bc587168dcb4e6790c33ea93690dbb3bd275e36914e2cc7160", func := "weirbox/weirboxlaw10.OxmBack", spec := "oxmBack", unfollowed := true, recurses := true, apart := false }
def OxmBackSaid : Prop := oxmBackRow.holds Try.pinned (OpenSpec.ofChange oxmBackSpec)

/-- ITS FALSE NEIGHBOUR: 'it returns false'. Refute it at one input. -/
def oxmBackWrong : ChangeSpec := { name := "oxmBack", fn := fun _ => fun
  | [d1, d2] => { results := [.lit (.bool false)], args := [d1, d2] }
  | _ => none }
def OxmBackWrongFalsely : Prop := oxmBackRow.holds Try.pinned (OpenSpec.ofChange oxmBackWrong)

/-- 'weirboxlaw10.OxmCounts': WHATEVER THE INPUT: true; the input reads as it did. -/
def oxmCountsSpec : ChangeSpec := { name := "oxmCounts", fn := fun _ => fun
  | [d1, d2] => { results := [.lit (.bool true)], args := [d1, d2] }
  | _ => none }
def oxmCountsRow : OpenClaim := { program := "ytabefajdpefbiaa", sum := "a97eb04b3a3ab1bc587168dcb4e6790c33ea93690dbb3bd275e36914e2cc7160", func := "weirbox/weirboxlaw10.OxmCounts", spec := "oxmCounts", unfollowed := true, recurses := true, apart := false }
def OxmCountsSaid : Prop := oxmCountsRow.holds Try.pinned (OpenSpec.ofChange oxmCountsSpec)

/-- ITS FALSE NEIGHBOUR: 'it returns false'. Refute it at one input. -/
def oxmCountsWrong : ChangeSpec := { name := "oxmCounts", fn := fun _ => fun
  | [d1, d2] => { results := [.lit (.bool false)], args := [d1, d2] }
  | _ => none }
def OxmCountsWrongFalsely : Prop := oxmCountsRow.holds Try.pinned (OpenSpec.ofChange oxmCountsWrong)

/- THE SECOND FORM. 'bulk': how many values and letters a reading holds, each counted each time it is reached (what is shared counts as often as it is met; a slice's spare places count too). A statement '..UptoSaid' is the law's where the arguments, and the package variables that the reading takes, are together of bulk at most 1048576: NARROWER than '..Said'. Prove '..Said' where nothing that the law and all that it calls make is longer than what came in: it says more and counts as full. Else prove '..UptoSaid'. A law counts once. -/
mutual
def uptoBulk {H : Type} : DataW H → Nat
  | .lit (.string bytes) => bytes.length + 1
  | .lit _ => 1
  | .nil => 1
  | .ptr d => uptoBulk d + 1
  | .slice elems spare => uptoBulkAll elems + uptoBulkAll spare + 1
  | .agg parts => uptoBulkAll parts + 1
  | .iface _ d => uptoBulk d + 1
  | .map entries => uptoBulkEntries entries + 1
  | .held _ => 1
def uptoBulkAll {H : Type} : List (DataW H) → Nat
  | [] => 0
  | d :: r => uptoBulk d + uptoBulkAll r
def uptoBulkEntries {H : Type} : List (Lit × DataW H) → Nat
  | [] => 0
  | x :: r => uptoBulkEntry x + uptoBulkEntries r
def uptoBulkEntry {H : Type} : Lit × DataW H → Nat
  | (.string bytes, d) => bytes.length + uptoBulk d + 1
  | (_, d) => uptoBulk d + 1
 end
def uptoSmall : (H : Type) → List (DataW H) → Bool := fun _ ds => decide (uptoBulkAll ds ≤ 1048576)
def OpenSpec.upto (s : _root_.Go.ChangeSpec) : _root_.Go.OpenSpec := { _root_.Go.OpenSpec.ofChange s with cond := some uptoSmall }

/-- 'weirboxlaw10.OxmEncodes', WHERE WHAT IT READS IS OF BULK AT MOST 1048576: true; the input reads as it did. -/
def oxmEncodesUptoRow : OpenClaim := { program := "ytabefajdpefbiaa", sum := "a97eb04b3a3ab1bc587168dcb4e6790c33ea93690dbb3bd275e36914e2cc7160", func := "weirbox/weirboxlaw10.OxmEncodes", spec := "oxmEncodes", unfollowed := true, recurses := true, apart := false, narrowed := true }
def OxmEncodesUptoSaid : Prop := oxmEncodesUptoRow.holds Try.pinned (OpenSpec.upto oxmEncodesSpec)

/-- 'weirboxlaw10.OxmDecodes', WHERE WHAT IT READS IS OF BULK AT MOST 1048576: true; the input reads as it did. -/
def oxmDecodesUptoRow : OpenClaim := { program := "ytabefajdpefbiaa", sum := "a97eb04b3a3ab1bc587168dcb4e6790c33ea93690dbb3bd275e36914e2cc7160", func := "weirbox/weirboxlaw10.OxmDecodes", spec := "oxmDecodes", unfollowed := true, recurses := true, apart := false, narrowed := true }
def OxmDecodesUptoSaid : Prop := oxmDecodesUptoRow.holds Try.pinned (OpenSpec.upto oxmDecodesSpec)

/-- 'weirboxlaw10.OxmBack', WHERE WHAT IT READS IS OF BULK AT MOST 1048576: true; the input reads as it did. -/
def oxmBackUptoRow : OpenClaim := { program := "ytabefajdpefbiaa", sum := "a97eb04b3a3ab1bc587168dcb4e6790c33ea93690dbb3bd275e36914e2cc7160", func := "weirbox/weirboxlaw10.OxmBack", spec := "oxmBack", unfollowed := true, recurses := true, apart := false, narrowed := true }
def OxmBackUptoSaid : Prop := oxmBackUptoRow.holds Try.pinned (OpenSpec.upto oxmBackSpec)

/-- 'weirboxlaw10.OxmCounts', WHERE WHAT IT READS IS OF BULK AT MOST 1048576: true; the input reads as it did. -/
def oxmCountsUptoRow : OpenClaim := { program := "ytabefajdpefbiaa", sum := "a97eb04b3a3ab1bc587168dcb4e6790c33ea93690dbb3bd275e36914e2cc7160", func := "weirbox/weirboxlaw10.OxmCounts", spec := "oxmCounts", unfollowed := true, recurses := true, apart := false, narrowed := true }
def OxmCountsUptoSaid : Prop := oxmCountsUptoRow.holds Try.pinned (OpenSpec.upto oxmCountsSpec)

end Rows
end Go.Proofs.Ytabefajdpefbiaa
