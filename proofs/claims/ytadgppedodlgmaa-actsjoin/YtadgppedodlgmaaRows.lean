/-
  No cell of these rows narrows 'for every input' (looked for: loops, veiled, ifaces, maps, wideKeys, modest, calm, conditions, laid).
  DERIVED. THE GIVEN ROWS OF THIS SEAT. 4 by the template 'for every input the law returns true; each argument reads behind the call as it read before'; 0 by the template 'total and deterministic' (their statements: YtadgppedodlgmaaTotals.lean).
  GIVEN WITH THE SEED: the statements are not yours to turn. If you find one false, say at which input.
  Laid BY PROGRAM, IN A SANDBOX (cutbox-rows.mjs): the forced cells as the released guide's own fill.sh prints them over the translation 14213b8b61d3f564… (all of the seat's roots in one cut). By AI agents, Wed Nov 11 2026. No macro, syntax, notation, axiom, sorry.
-/
import Derived.Test.YtadgppedodlgmaaChecked
import GoSem.Claim
import GoSem.ClaimJoined
import GoSem.ClaimMapViews
import Derived.JoinedTies
import Derived.KernelRfl
namespace Go.Proofs.Ytadgppedodlgmaa
/- THE CELL 'sum', in the pinned program and in every row, IS THE sha256 OF THE DUMP (.gsa) THAT YtadgppedodlgmaaProg.lean LOADS. Nothing in Lean hashes anything: it is a label: what it is worth is what the hold of that sum in a sandbox is worth. -/
noncomputable def Try.pinned : Pinned := { name := "ytadgppedodlgmaa", sum := "14213b8b61d3f56463a39da27af41311cc9f44ba6fa4d77238ba33eed791f3d9", checked := Try.checked }
namespace Rows
def none {H : Type} : Left H := { results := [], args := [] }

/-- 'weirboxlaw13.ActsEncode': WHATEVER THE INPUT: true; the input reads as it did. -/
def actsEncodeSpec : ChangeSpec := { name := "actsEncode", fn := fun _ => fun
  | [d1, d2] => { results := [.lit (.bool true)], args := [d1, d2] }
  | _ => none }
def actsEncodeRow : OpenClaim := { program := "ytadgppedodlgmaa", sum := "14213b8b61d3f56463a39da27af41311cc9f44ba6fa4d77238ba33eed791f3d9", func := "weirbox/weirboxlaw13.ActsEncode", spec := "actsEncode", unfollowed := true, recurses := true, apart := false }
def ActsEncodeSaid : Prop := actsEncodeRow.holds Try.pinned (OpenSpec.ofChange actsEncodeSpec)

/-- ITS FALSE NEIGHBOUR: 'it returns false'. Refute it at one input. -/
def actsEncodeWrong : ChangeSpec := { name := "actsEncode", fn := fun _ => fun
  | [d1, d2] => { results := [.lit (.bool false)], args := [d1, d2] }
  | _ => none }
def ActsEncodeWrongFalsely : Prop := actsEncodeRow.holds Try.pinned (OpenSpec.ofChange actsEncodeWrong)

/-- 'weirboxlaw13.ActsDecode': WHATEVER THE INPUT: true; the input reads as it did. -/
def actsDecodeSpec : ChangeSpec := { name := "actsDecode", fn := fun _ => fun
  | [d] => { results := [.lit (.bool true)], args := [d] }
  | _ => none }
def actsDecodeRow : OpenClaim := { program := "ytadgppedodlgmaa", sum := "14213b8b61d3f56463a39da27af41311cc9f44ba6fa4d77238ba33eed791f3d9", func := "weirbox/weirboxlaw13.ActsDecode", spec := "actsDecode", unfollowed := true, recurses := true, apart := false }
def ActsDecodeSaid : Prop := actsDecodeRow.holds Try.pinned (OpenSpec.ofChange actsDecodeSpec)

/-- ITS FALSE NEIGHBOUR: 'it returns false'. Refute it at one input. -/
def actsDecodeWrong : ChangeSpec := { name := "actsDecode", fn := fun _ => fun
  | [d] => { results := [.lit (.bool false)], args := [d] }
  | _ => none }
def ActsDecodeWrongFalsely : Prop := actsDecodeRow.holds Try.pinned (OpenSpec.ofChange actsDecodeWrong)

/-- 'weirboxlaw13.ActsBack': WHATEVER THE INPUT: true; the input reads as it did. -/
def actsBackSpec : ChangeSpec := { name := "actsBack", fn := fun _ => fun
  | [d1, d2] => { results := [.lit (.bool true)], args := [d1, d2] }
  | _ => none }
def actsBackRow : OpenClaim := { program := "ytadgppedodlgmaa", sum := "14213b8b61d3f56463a39da27af41311cc9f44ba6fa4d77238ba33eed791f3d9", func := "weirbox/weirboxlaw13.ActsBack", spec := "actsBack", unfollowed := true, recurses := true, apart := false }
def ActsBackSaid : Prop := actsBackRow.holds Try.pinned (OpenSpec.ofChange actsBackSpec)

/-- ITS FALSE NEIGHBOUR: 'it returns false'. Refute it at one input. -/
def actsBackWrong : ChangeSpec := { name := "actsBack", fn := fun _ => fun
  | [d1, d2] => { results := [.lit (.bool false)], args := [d1, d2] }
  | _ => none }
def ActsBackWrongFalsely : Prop := actsBackRow.holds Try.pinned (OpenSpec.ofChange actsBackWrong)

/-- 'weirboxlaw13.ActsJoin': WHATEVER THE INPUT: true; the input reads as it did. -/
def actsJoinSpec : ChangeSpec := { name := "actsJoin", fn := fun _ => fun
  | [d1, d2] => { results := [.lit (.bool true)], args := [d1, d2] }
  | _ => none }
def actsJoinRow : OpenClaim := { program := "ytadgppedodlgmaa", sum := "14213b8b61d3f56463a39da27af41311cc9f44ba6fa4d77238ba33eed791f3d9", func := "weirbox/weirboxlaw13.ActsJoin", spec := "actsJoin", unfollowed := true, recurses := true, apart := false }
def ActsJoinSaid : Prop := actsJoinRow.holds Try.pinned (OpenSpec.ofChange actsJoinSpec)

/-- ITS FALSE NEIGHBOUR: 'it returns false'. Refute it at one input. -/
def actsJoinWrong : ChangeSpec := { name := "actsJoin", fn := fun _ => fun
  | [d1, d2] => { results := [.lit (.bool false)], args := [d1, d2] }
  | _ => none }
def ActsJoinWrongFalsely : Prop := actsJoinRow.holds Try.pinned (OpenSpec.ofChange actsJoinWrong)

/- THE SECOND FORM. 'bulk': how many values and letters a reading holds, each counted each time it is reached (what is shared counts as often as it is met; a slice's spare places count too). A statement '..UptoSaid' is the law's where the arguments, and the package variables that the reading takes, are together of bulk at most 1048576: NARROWER than '..Said'. Prove '..Said' where nothing that the law and all that it calls make is longer than what came in: it says more and counts as full. Else prove '..UptoSaid'. A law counts once. -/
mutual
def uptoBulk {H : Type} : DataW H → Nat
  | .lit (.string bytes) => bytes.length + 1
  | .lit _ => 1
  | .nil => 1
  | .ptr d => uptoBulk d + 1
  | .slice elems spare => uptoBulkAll elems + uptoBulkAll spare + 1
  | .agg parts => uptoBulkAll parts + 1
  | .iface _ d => uptoBulk d + 1
  | .map entries => uptoBulkEntries entries + 1
  | .held _ => 1
def uptoBulkAll {H : Type} : List (DataW H) → Nat
  | [] => 0
  | d :: r => uptoBulk d + uptoBulkAll r
def uptoBulkEntries {H : Type} : List (Lit × DataW H) → Nat
  | [] => 0
  | x :: r => uptoBulkEntry x + uptoBulkEntries r
def uptoBulkEntry {H : Type} : Lit × DataW H → Nat
  | (.string bytes, d) => bytes.length + uptoBulk d + 1
  | (_, d) => uptoBulk d + 1
 end
def uptoSmall : (H : Type) → List (DataW H) → Bool := fun _ ds => decide (uptoBulkAll ds ≤ 1048576)
def OpenSpec.upto (s : _root_.Go.ChangeSpec) : _root_.Go.OpenSpec := { _root_.Go.OpenSpec.ofChange s with cond := some uptoSmall }

/-- 'weirboxlaw13.ActsEncode', WHERE WHAT IT READS IS OF BULK AT MOST 1048576: true; the input reads as it did. -/
def actsEncodeUptoRow : OpenClaim := { program := "ytadgppedodlgmaa", sum := "14213b8b61d3f56463a39da27af41311cc9f44ba6fa4d77238ba33eed791f3d9", func := "weirbox/weirboxlaw13.ActsEncode", spec := "actsEncode", unfollowed := true, recurses := true, apart := false, narrowed := true }
def ActsEncodeUptoSaid : Prop := actsEncodeUptoRow.holds Try.pinned (OpenSpec.upto actsEncodeSpec)

/-- 'weirboxlaw13.ActsDecode', WHERE WHAT IT READS IS OF BULK AT MOST 1048576: true; the input reads as it did. -/
def actsDecodeUptoRow : OpenClaim := { program := "ytadgppedodlgmaa", sum := "14213b8b61d3f56463a39da27af41311cc9f44ba6fa4d77238ba33eed791f3d9", func := "weirbox/weirboxlaw13.ActsDecode", spec := "actsDecode", unfollowed := true, recurses := true, apart := false, narrowed := true }
def ActsDecodeUptoSaid : Prop := actsDecodeUptoRow.holds Try.pinned (OpenSpec.upto actsDecodeSpec)

/-- 'weirboxlaw13.ActsBack', WHERE WHAT IT READS IS OF BULK AT MOST 1048576: true; the input reads as it did. -/
def actsBackUptoRow : OpenClaim := { program := "ytadgppedodlgmaa", sum := "14213b8b61d3f56463a39da27af41311cc9f44ba6fa4d77238ba33eed791f3d9", func := "weirbox/weirboxlaw13.ActsBack", spec := "actsBack", unfollowed := true, recurses := true, apart := false, narrowed := true }
def ActsBackUptoSaid : Prop := actsBackUptoRow.holds Try.pinned (OpenSpec.upto actsBackSpec)

/-- 'weirboxlaw13.ActsJoin', WHERE WHAT IT READS IS OF BULK AT MOST 1048576: true; the input reads as it did. -/
def actsJoinUptoRow : OpenClaim := { program := "ytadgppedodlgmaa", sum := "14213b8b61d3f56463a39da27af41311cc9f44ba6fa4d77238ba33eed791f3d9", func := "weirbox/weirboxlaw13.ActsJoin", spec := "actsJoin", unfollowed := true, recurses := true, apart := false, narrowed := true }
def ActsJoinUptoSaid : Prop := actsJoinUptoRow.holds Try.pinned (OpenSpec.upto actsJoinSpec)

end Rows
end Go.Proofs.Ytadgppedodlgmaa
