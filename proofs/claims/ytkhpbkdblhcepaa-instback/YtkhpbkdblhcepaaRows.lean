/-
  No cell of these rows narrows 'for every input' (looked for: loops, veiled, ifaces, maps, wideKeys, modest, calm, conditions, laid).
  DERIVED. THE GIVEN ROWS OF THIS SEAT. 5 by the template 'for every input the law returns true; each argument reads behind the call as it read before'; 0 by the template 'total and deterministic' (their statements: YtkhpbkdblhcepaaTotals.lean).
  GIVEN WITH THE SEED: the statements are not yours to turn. If you find one false, say at which input.
  Laid BY PROGRAM, IN A SANDBOX (cutbox-rows.mjs): the forced cells as the released guide's own fill.sh prints them over the translation 78e09005fd3dfe62… (all of the seat's roots in one cut). By AI agents, Wed Nov 11 2026. No macro, syntax, notation, axiom, sorry.
-/
import Derived.Test.YtkhpbkdblhcepaaChecked
import GoSem.Claim
import GoSem.ClaimJoined
import GoSem.ClaimMapViews
import Derived.JoinedTies
import Derived.KernelRfl
namespace Go.Proofs.Ytkhpbkdblhcepaa
/- THE CELL 'sum', in the pinned program and in every row, IS THE sha256 OF THE DUMP (.gsa) THAT YtkhpbkdblhcepaaProg.lean LOADS. Nothing in Lean hashes anything: it is a label: what it is worth is what the hold of that sum in a sandbox is worth. -/
noncomputable def Try.pinned : Pinned := { name := "ytkhpbkdblhcepaa", sum := "78e09005fd3dfe62629ba1ea6b06041a79c1bb86ef6fad389e130bafb33f4467", checked := Try.checked }
namespace Rows
def none {H : Type} : Left H := { results := [], args := [] }

/-- 'weirboxlaw13.ActsEncode': WHATEVER THE INPUT: true; the input reads as it did. -/
def actsEncodeSpec : ChangeSpec := { name := "actsEncode", fn := fun _ => fun
  | [d1, d2] => { results := [.lit (.bool true)], args := [d1, d2] }
  | _ => none }
def actsEncodeRow : OpenClaim := { program := "ytkhpbkdblhcepaa", sum := "78e09005fd3dfe62629ba1ea6b06041a79c1bb86ef6fad389e130bafb33f4467", func := "weirbox/weirboxlaw13.ActsEncode", spec := "actsEncode", unfollowed := true, recurses := true, apart := false }
def ActsEncodeSaid : Prop := actsEncodeRow.holds Try.pinned (OpenSpec.ofChange actsEncodeSpec)

/-- ITS FALSE NEIGHBOUR: 'it returns false'. Refute it at one input. -/
def actsEncodeWrong : ChangeSpec := { name := "actsEncode", fn := fun _ => fun
  | [d1, d2] => { results := [.lit (.bool false)], args := [d1, d2] }
  | _ => none }
def ActsEncodeWrongFalsely : Prop := actsEncodeRow.holds Try.pinned (OpenSpec.ofChange actsEncodeWrong)

/-- 'weirboxlaw13.ActsDecode': WHATEVER THE INPUT: true; the input reads as it did. -/
def actsDecodeSpec : ChangeSpec := { name := "actsDecode", fn := fun _ => fun
  | [d] => { results := [.lit (.bool true)], args := [d] }
  | _ => none }
def actsDecodeRow : OpenClaim := { program := "ytkhpbkdblhcepaa", sum := "78e09005fd3dfe62629ba1ea6b06041a79c1bb86ef6fad389e130bafb33f4467", func := "weirbox/weirboxlaw13.ActsDecode", spec := "actsDecode", unfollowed := true, recurses := true, apart := false }
def ActsDecodeSaid : Prop := actsDecodeRow.holds Try.pinned (OpenSpec.ofChange actsDecodeSpec)

/-- ITS FALSE NEIGHBOUR: 'it returns false'. Refute it at one input. -/
def actsDecodeWrong : ChangeSpec := { name := "actsDecode", fn := fun _ => fun
  | [d] => { results := [.lit (.bool false)], args := [d] }
  | _ => none }
def ActsDecodeWrongFalsely : Prop := actsDecodeRow.holds Try.pinned (OpenSpec.ofChange actsDecodeWrong)

/-- 'weirboxlaw14.InstBack': WHATEVER THE INPUT: true; the input reads as it did. -/
def instBackSpec : ChangeSpec := { name := "instBack", fn := fun _ => fun
  | [d1, d2] => { results := [.lit (.bool true)], args := [d1, d2] }
  | _ => none }
def instBackRow : OpenClaim := { program := "ytkhpbkdblhcepaa", sum := "78e09005fd3dfe62629ba1ea6b06041a79c1bb86ef6fad389e130bafb33f4467", func := "weirbox/weirboxlaw14.InstBack", spec := "instBack", unfollowed := true, recurses := true, apart := false }
def InstBackSaid : Prop := instBackRow.holds Try.pinned (OpenSpec.ofChange instBackSpec)

/-- ITS FALSE NEIGHBOUR: 'it returns false'. Refute it at one input. -/
def instBackWrong : ChangeSpec := { name := "instBack", fn := fun _ => fun
  | [d1, d2] => { results := [.lit (.bool false)], args := [d1, d2] }
  | _ => none }
def InstBackWrongFalsely : Prop := instBackRow.holds Try.pinned (OpenSpec.ofChange instBackWrong)

/-- 'weirboxlaw14.InstOnce': WHATEVER THE INPUT: true; the input reads as it did. -/
def instOnceSpec : ChangeSpec := { name := "instOnce", fn := fun _ => fun
  | [d] => { results := [.lit (.bool true)], args := [d] }
  | _ => none }
def instOnceRow : OpenClaim := { program := "ytkhpbkdblhcepaa", sum := "78e09005fd3dfe62629ba1ea6b06041a79c1bb86ef6fad389e130bafb33f4467", func := "weirbox/weirboxlaw14.InstOnce", spec := "instOnce", unfollowed := true, recurses := true, apart := false }
def InstOnceSaid : Prop := instOnceRow.holds Try.pinned (OpenSpec.ofChange instOnceSpec)

/-- ITS FALSE NEIGHBOUR: 'it returns false'. Refute it at one input. -/
def instOnceWrong : ChangeSpec := { name := "instOnce", fn := fun _ => fun
  | [d] => { results := [.lit (.bool false)], args := [d] }
  | _ => none }
def InstOnceWrongFalsely : Prop := instOnceRow.holds Try.pinned (OpenSpec.ofChange instOnceWrong)

/-- 'weirboxlaw18.GroupmodBack': WHATEVER THE INPUT: true; the input reads as it did. -/
def groupmodBackSpec : ChangeSpec := { name := "groupmodBack", fn := fun _ => fun
  | [d1, d2] => { results := [.lit (.bool true)], args := [d1, d2] }
  | _ => none }
def groupmodBackRow : OpenClaim := { program := "ytkhpbkdblhcepaa", sum := "78e09005fd3dfe62629ba1ea6b06041a79c1bb86ef6fad389e130bafb33f4467", func := "weirbox/weirboxlaw18.GroupmodBack", spec := "groupmodBack", unfollowed := true, recurses := true, apart := false }
def GroupmodBackSaid : Prop := groupmodBackRow.holds Try.pinned (OpenSpec.ofChange groupmodBackSpec)

/-- ITS FALSE NEIGHBOUR: 'it returns false'. Refute it at one input. -/
def groupmodBackWrong : ChangeSpec := { name := "groupmodBack", fn := fun _ => fun
  | [d1, d2] => { results := [.lit (.bool false)], args := [d1, d2] }
  | _ => none }
def GroupmodBackWrongFalsely : Prop := groupmodBackRow.holds Try.pinned (OpenSpec.ofChange groupmodBackWrong)

/- THE SECOND FORM. 'bulk': how many values and letters a reading holds, each counted each time it is reached (what is shared counts as often as it is met; a slice's spare places count too). A statement '..UptoSaid' is the law's where the arguments, and the package variables that the reading takes, are together of bulk at most 1048576: NARROWER than '..Said'. Prove '..Said' where nothing that the law and all that it calls make is longer than what came in: it says more and counts as full. Else prove '..UptoSaid'. A law counts once. -/
mutual
def uptoBulk {H : Type} : DataW H → Nat
  | .lit (.string bytes) => bytes.length + 1
  | .lit _ => 1
  | .nil => 1
  | .ptr d => uptoBulk d + 1
  | .slice elems spare => uptoBulkAll elems + uptoBulkAll spare + 1
  | .agg parts => uptoBulkAll parts + 1
  | .iface _ d => uptoBulk d + 1
  | .map entries => uptoBulkEntries entries + 1
  | .held _ => 1
def uptoBulkAll {H : Type} : List (DataW H) → Nat
  | [] => 0
  | d :: r => uptoBulk d + uptoBulkAll r
def uptoBulkEntries {H : Type} : List (Lit × DataW H) → Nat
  | [] => 0
  | x :: r => uptoBulkEntry x + uptoBulkEntries r
def uptoBulkEntry {H : Type} : Lit × DataW H → Nat
  | (.string bytes, d) => bytes.length + uptoBulk d + 1
  | (_, d) => uptoBulk d + 1
 end
def uptoSmall : (H : Type) → List (DataW H) → Bool := fun _ ds => decide (uptoBulkAll ds ≤ 1048576)
def OpenSpec.upto (s : _root_.Go.ChangeSpec) : _root_.Go.OpenSpec := { _root_.Go.OpenSpec.ofChange s with cond := some uptoSmall }

/-- 'weirboxlaw13.ActsEncode', WHERE WHAT IT READS IS OF BULK AT MOST 1048576: true; the input reads as it did. -/
def actsEncodeUptoRow : OpenClaim := { program := "ytkhpbkdblhcepaa", sum := "78e09005fd3dfe62629ba1ea6b06041a79c1bb86ef6fad389e130bafb33f4467", func := "weirbox/weirboxlaw13.ActsEncode", spec := "actsEncode", unfollowed := true, recurses := true, apart := false, narrowed := true }
def ActsEncodeUptoSaid : Prop := actsEncodeUptoRow.holds Try.pinned (OpenSpec.upto actsEncodeSpec)

/-- 'weirboxlaw13.ActsDecode', WHERE WHAT IT READS IS OF BULK AT MOST 1048576: true; the input reads as it did. -/
def actsDecodeUptoRow : OpenClaim := { program := "ytkhpbkdblhcepaa", sum := "78e09005fd3dfe62629ba1ea6b06041a79c1bb86ef6fad389e130bafb33f4467", func := "weirbox/weirboxlaw13.ActsDecode", spec := "actsDecode", unfollowed := true, recurses := true, apart := false, narrowed := true }
def ActsDecodeUptoSaid : Prop := actsDecodeUptoRow.holds Try.pinned (OpenSpec.upto actsDecodeSpec)

/-- 'weirboxlaw14.InstBack', WHERE WHAT IT READS IS OF BULK AT MOST 1048576: true; the input reads as it did. -/
def instBackUptoRow : OpenClaim := { program := "ytkhpbkdblhcepaa", sum := "78e09005fd3dfe62629ba1ea6b06041a79c1bb86ef6fad389e130bafb33f4467", func := "weirbox/weirboxlaw14.InstBack", spec := "instBack", unfollowed := true, recurses := true, apart := false, narrowed := true }
def InstBackUptoSaid : Prop := instBackUptoRow.holds Try.pinned (OpenSpec.upto instBackSpec)

/-- 'weirboxlaw14.InstOnce', WHERE WHAT IT READS IS OF BULK AT MOST 1048576: true; the input reads as it did. -/
def instOnceUptoRow : OpenClaim := { program := "ytkhpbkdblhcepaa", sum := "78e09005fd3dfe62629ba1ea6b06041a79c1bb86ef6fad389e130bafb33f4467", func := "weirbox/weirboxlaw14.InstOnce", spec := "instOnce", unfollowed := true, recurses := true, apart := false, narrowed := true }
def InstOnceUptoSaid : Prop := instOnceUptoRow.holds Try.pinned (OpenSpec.upto instOnceSpec)

/-- 'weirboxlaw18.GroupmodBack', WHERE WHAT IT READS IS OF BULK AT MOST 1048576: true; the input reads as it did. -/
def groupmodBackUptoRow : OpenClaim := { program := "ytkhpbkdblhcepaa", sum := "78e09005fd3dfe62629ba1ea6b06041a79c1bb86ef6fad389e130bafb33f4467", func := "weirbox/weirboxlaw18.GroupmodBack", spec := "groupmodBack", unfollowed := true, recurses := true, apart := false, narrowed := true }
def GroupmodBackUptoSaid : Prop := groupmodBackUptoRow.holds Try.pinned (OpenSpec.upto groupmodBackSpec)

end Rows
end Go.Proofs.Ytkhpbkdblhcepaa
