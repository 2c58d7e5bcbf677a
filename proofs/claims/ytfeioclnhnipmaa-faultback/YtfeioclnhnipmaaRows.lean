/-
  No cell of these rows narrows 'for every input' (looked for: loops, veiled, ifaces, maps, wideKeys, modest, calm, conditions, laid).
  DERIVED. THE GIVEN ROWS OF THIS SEAT. 3 by the template 'for every input the law returns true; each argument reads behind the call as it read before'; 0 by the template 'total and deterministic' (their statements: YtfeioclnhnipmaaTotals.lean).
  GIVEN WITH THE SEED: the statements are not yours to turn. If you find one false, say at which input.
  Laid BY PROGRAM, IN A SANDBOX (cutbox-rows.mjs): the forced cells as the released guide's own fill.sh prints them over the translation a19a1c0218669afe… (all of the seat's roots in one cut). By AI agents, Wed Nov 11 2026. No macro, syntax, notation, axiom, sorry.
-/
import Derived.Test.YtfeioclnhnipmaaChecked
import GoSem.Claim
import GoSem.ClaimJoined
import GoSem.ClaimMapViews
import Derived.JoinedTies
import Derived.KernelRfl
namespace Go.Proofs.Ytfeioclnhnipmaa
/- THE CELL 'sum', in the pinned program and in every row, IS THE sha256 OF THE DUMP (.gsa) THAT YtfeioclnhnipmaaProg.lean LOADS. Nothing in Lean hashes anything: it is a label: what it is worth is what the hold of that sum in a sandbox is worth. -/
noncomputable def Try.pinned : Pinned := { name := "ytfeioclnhnipmaa", sum := "a19a1c0218669afe4d43d8d2a0c5624b138a64d0abe2480ae594873d1746f0e1", checked := Try.checked }
namespace Rows
def none {H : Type} : Left H := { results := [], args := [] }

/-- 'weirboxlaw19.FaultReplies': WHATEVER THE INPUT: true; the input reads as it did. -/
def faultRepliesSpec : ChangeSpec := { name := "faultReplies", fn := fun _ => fun
  | [d1, d2] => { results := [.lit (.bool true)], args := [d1, d2] }
  | _ => none }
def faultRepliesRow : OpenClaim := { program := "ytfeioclnhnipmaa", sum := "a19a1c0218669afe4d43d8d2a0c5624b138a64d0abe2480ae594873d1746f0e1", func := "weirbox/weirboxlaw19.FaultReplies", spec := "faultReplies", apart := false }
def FaultRepliesSaid : Prop := faultRepliesRow.holds Try.pinned (OpenSpec.ofChange faultRepliesSpec)

/-- ITS FALSE NEIGHBOUR: 'it returns false'. Refute it at one input. -/
def faultRepliesWrong : ChangeSpec := { name := "faultReplies", fn := fun _ => fun
  | [d1, d2] => { results := [.lit (.bool false)], args := [d1, d2] }
  | _ => none }
def FaultRepliesWrongFalsely : Prop := faultRepliesRow.holds Try.pinned (OpenSpec.ofChange faultRepliesWrong)

/-- 'weirboxlaw19.FaultParses': WHATEVER THE INPUT: true; the input reads as it did. -/
def faultParsesSpec : ChangeSpec := { name := "faultParses", fn := fun _ => fun
  | [d] => { results := [.lit (.bool true)], args := [d] }
  | _ => none }
def faultParsesRow : OpenClaim := { program := "ytfeioclnhnipmaa", sum := "a19a1c0218669afe4d43d8d2a0c5624b138a64d0abe2480ae594873d1746f0e1", func := "weirbox/weirboxlaw19.FaultParses", spec := "faultParses", apart := false }
def FaultParsesSaid : Prop := faultParsesRow.holds Try.pinned (OpenSpec.ofChange faultParsesSpec)

/-- ITS FALSE NEIGHBOUR: 'it returns false'. Refute it at one input. -/
def faultParsesWrong : ChangeSpec := { name := "faultParses", fn := fun _ => fun
  | [d] => { results := [.lit (.bool false)], args := [d] }
  | _ => none }
def FaultParsesWrongFalsely : Prop := faultParsesRow.holds Try.pinned (OpenSpec.ofChange faultParsesWrong)

/-- 'weirboxlaw19.FaultBack': WHATEVER THE INPUT: true; the input reads as it did. -/
def faultBackSpec : ChangeSpec := { name := "faultBack", fn := fun _ => fun
  | [d1, d2, d3] => { results := [.lit (.bool true)], args := [d1, d2, d3] }
  | _ => none }
def faultBackRow : OpenClaim := { program := "ytfeioclnhnipmaa", sum := "a19a1c0218669afe4d43d8d2a0c5624b138a64d0abe2480ae594873d1746f0e1", func := "weirbox/weirboxlaw19.FaultBack", spec := "faultBack", unfollowed := true, recurses := true, apart := false }
def FaultBackSaid : Prop := faultBackRow.holds Try.pinned (OpenSpec.ofChange faultBackSpec)

/-- ITS FALSE NEIGHBOUR: 'it returns false'. Refute it at one input. -/
def faultBackWrong : ChangeSpec := { name := "faultBack", fn := fun _ => fun
  | [d1, d2, d3] => { results := [.lit (.bool false)], args := [d1, d2, d3] }
  | _ => none }
def FaultBackWrongFalsely : Prop := faultBackRow.holds Try.pinned (OpenSpec.ofChange faultBackWrong)

/- THE SECOND FORM. 'bulk': how many values and letters a reading holds, each counted each time it is reached (what is shared counts as often as it is met; a slice's spare places count too). A statement '..UptoSaid' is the law's where the arguments, and the package variables that the reading takes, are together of bulk at most 1048576: NARROWER than '..Said'. Prove '..Said' where nothing that the law and all that it calls make is longer than what came in: it says more and counts as full. Else prove '..UptoSaid'. A law counts once. -/
mutual
def uptoBulk {H : Type} : DataW H → Nat
  | .lit (.string bytes) => bytes.length + 1
  | .lit _ => 1
  | .nil => 1
  | .ptr d => uptoBulk d + 1
  | .slice elems spare => uptoBulkAll elems + uptoBulkAll spare + 1
  | .agg parts => uptoBulkAll parts + 1
  | .iface _ d => uptoBulk d + 1
  | .map entries => uptoBulkEntries entries + 1
  | .held _ => 1
def uptoBulkAll {H : Type} : List (DataW H) → Nat
  | [] => 0
  | d :: r => uptoBulk d + uptoBulkAll r
def uptoBulkEntries {H : Type} : List (Lit × DataW H) → Nat
  | [] => 0
  | x :: r => uptoBulkEntry x + uptoBulkEntries r
def uptoBulkEntry {H : Type} : Lit × DataW H → Nat
  | (.string bytes, d) => bytes.length + uptoBulk d + 1
  | (_, d) => uptoBulk d + 1
 end
def uptoSmall : (H : Type) → List (DataW H) → Bool := fun _ ds => decide (uptoBulkAll ds ≤ 1048576)
def OpenSpec.upto (s : _root_.Go.ChangeSpec) : _root_.Go.OpenSpec := { _root_.Go.OpenSpec.ofChange s with cond := some uptoSmall }

/-- 'weirboxlaw19.FaultReplies', WHERE WHAT IT READS IS OF BULK AT MOST 1048576: true; the input reads as it did. -/
def faultRepliesUptoRow : OpenClaim := { program := "ytfeioclnhnipmaa", sum := "a19a1c0218669afe4d43d8d2a0c5624b138a64d0abe2480ae594873d1746f0e1", func := "weirbox/weirboxlaw19.FaultReplies", spec := "faultReplies", apart := false, narrowed := true }
def FaultRepliesUptoSaid : Prop := faultRepliesUptoRow.holds Try.pinned (OpenSpec.upto faultRepliesSpec)

/-- 'weirboxlaw19.FaultParses', WHERE WHAT IT READS IS OF BULK AT MOST 1048576: true; the input reads as it did. -/
def faultParsesUptoRow : OpenClaim := { program := "ytfeioclnhnipmaa", sum := "a19a1c0218669afe4d43d8d2a0c5624b138a64d0abe2480ae594873d1746f0e1", func := "weirbox/weirboxlaw19.FaultParses", spec := "faultParses", apart := false, narrowed := true }
def FaultParsesUptoSaid : Prop := faultParsesUptoRow.holds Try.pinned (OpenSpec.upto faultParsesSpec)

/-- 'weirboxlaw19.FaultBack', WHERE WHAT IT READS IS OF BULK AT MOST 1048576: true; the input reads as it did. -/
def faultBackUptoRow : OpenClaim := { program := "ytfeioclnhnipmaa", sum := "a19a1c0218669afe4d43d8d2a0c5624b138a64d0abe2480ae594873d1746f0e1", func := "weirbox/weirboxlaw19.FaultBack", spec := "faultBack", unfollowed := true, recurses := true, apart := false, narrowed := true }
def FaultBackUptoSaid : Prop := faultBackUptoRow.holds Try.pinned (OpenSpec.upto faultBackSpec)

end Rows
end Go.Proofs.Ytfeioclnhnipmaa
