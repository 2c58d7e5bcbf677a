import Derived.Test.YtmpfpolanndakabProg
import Derived.Test.YtmpfpolanndakabK
import Derived.Test.YtmpfpolanndakabFr
import Derived.Test.YtmpfpolanndakabFa
import Derived.Below
import Derived.BigQuiet
import Derived.BigRegion
import Derived.ChangeAlike
import Derived.ChangeKeysEq
import Derived.ChangeSame
import Derived.DataElems
import Derived.Deep.MidRow
import Derived.Deep.QuietTactic
import Derived.Deep.RegionHeld
import Derived.Deep.RegionHeld3
import Derived.Deep.RegionLaw
import Derived.Deep.RegionLawGrows
import Derived.Deep.RegionWith
import Derived.Deep.WholeRow
import Derived.Great.BuildSlice
import Derived.Handy
import Derived.Laws.AppendOwn
import Derived.Laws.AppendOwnNone
import Derived.Laws.BitsAllLaws
import Derived.Laws.BitsLemmas
import Derived.Laws.CopyOwn
import Derived.Laws.OwnMore
import Derived.Laws.Rows
import Derived.Laws.StructEq
import Derived.Lib.SmallJoins
import Derived.OpenShut
import Derived.ProofKit
import Derived.RegionTactic
import Derived.WalkKit
import Derived.WalkLawsBesides
import Derived.WalkSmall
import Derived.WalkSpells
import Derived.WideShapes
namespace Go.Proofs.Ytmpfpolanndakab
open Go Go.RowKit
set_option linter.unusedVariables false
set_option linter.unusedSimpArgs false

/-- the cells of the table -/
def tcell (k : Nat) : Value := match k % 4 with
  | 0 => .string (fname ((k / 4 : Nat) : Int))
  | 1 => .int .i64 (fid ((k / 4 : Nat) : Int))
  | 2 => .int .i64 (fbits ((k / 4 : Nat) : Int) : Int)
  | _ => .bool (fmask ((k / 4 : Nat) : Int))

def tbl : List Value := (List.range 96).map tcell

theorem tbl_at (k : Nat) (h : k < 96) : tbl[k]? = some (tcell k) := by
  unfold tbl; simp [h]

theorem tbl_size : tbl.toArray.size = 96 := by simp [tbl]

theorem tbl_one : tbl.toArray.all (·.oneCell') = true := by
  refine all_oneCell_toArray ?_
  intro v hv
  obtain ⟨k, _, rfl⟩ := List.mem_map.1 hv
  unfold tcell
  split <;> rfl

theorem tc0 (j : Nat) : tcell (j * 4) = .string (fname (j : Int)) := by
  have h1 : j * 4 % 4 = 0 := by omega
  have h2 : j * 4 / 4 = j := by omega
  simp [tcell, h1, h2]

theorem tc1 (j : Nat) : tcell (j * 4 + 1) = .int .i64 (fid (j : Int)) := by
  have h1 : (j * 4 + 1) % 4 = 1 := by omega
  have h2 : (j * 4 + 1) / 4 = j := by omega
  simp [tcell, h1, h2]

theorem tc2 (j : Nat) : tcell (j * 4 + 2) = .int .i64 (fbits (j : Int) : Int) := by
  have h1 : (j * 4 + 2) % 4 = 2 := by omega
  have h2 : (j * 4 + 2) / 4 = j := by omega
  simp [tcell, h1, h2]

theorem tc3 (j : Nat) : tcell (j * 4 + 3) = .bool (fmask (j : Int)) := by
  have h1 : (j * 4 + 3) % 4 = 3 := by omega
  have h2 : (j * 4 + 3) / 4 = j := by omega
  simp [tcell, h1, h2]

theorem tbl_range (w : World) (g j : Nat) (t : TypeId) (hg : w.heap[g]? = some (.cells tbl.toArray t)) (hj : j < 24) :
    w.rangeAt g (j * 4) [.string (fname (j : Int)), .int .i64 (fid (j : Int)), .int .i64 (fbits (j : Int) : Int), .bool (fmask (j : Int))] := by
  intro i v hv
  rw [cell_of_row w g (j * 4 + i) _ t _ hg]
  have hi : i < 4 := (List.getElem?_eq_some_iff.1 hv).1
  have e : tbl.toArray[j * 4 + i]? = tbl[j * 4 + i]? := by simp
  rw [e, tbl_at _ (by omega)]
  match i, hi with
  | 0, _ => rw [Nat.add_zero, tc0]; simpa using hv
  | 1, _ => rw [tc1]; simpa using hv
  | 2, _ => rw [tc2]; simpa using hv
  | 3, _ => rw [tc3]; simpa using hv

theorem sz72 : (Try.prog.info? 51).map (·.size) = some tbl.toArray.size := by rw [tbl_size]; kernel_rfl

theorem sz59 (a b c d : Value) : (Try.prog.info? 46).map (·.size) = some ([a, b, c, d] : List Value).length := by simp only [List.length_cons, List.length_nil]; kernel_rfl

/-- the table's cells ahead of the store -/
def ztbl : List Value := (List.replicate 24 ([.string ⟨#[]⟩, .int .i64 0, .int .i64 0, .bool false] : List Value)).flatten

theorem z72' : (Try.prog.info? 51).map (fun i => (i.zero, i.size)) = some (some (.agg ztbl.toArray), 96) := by kernel_rfl

set_option maxRecDepth 100000 in
set_option maxHeartbeats 2000000 in
theorem of_in (j : Nat) (w : World) (h1 : j < 24) :
    Calls Try.prog 20 #[.int .i64 (j : Int)] w fun e w' => e = .returned (ofv (j : Int)) ∧ Below w.heap.size w w' := by
  have h1' : (j : Int) < 24 := by omega
  have H : Hid (fok (j : Int) = true) := hide_ (by simp [fok, *])
  unfold ofv
  have HR := hide_ (fun (w : World) (g : Nat) (t : TypeId) hg => tbl_range w g j t hg h1)
  obtain ⟨hz0, hz1⟩ := zero_of_info z72'
  go_enter Try.func20, Try.ntmps20
  go_wp2_with (first
    | (go_at_call 5; refine (fright_any _ _).mono ?_; rintro e w' ⟨rfl, rfl⟩; rw [H.out])
    | (refine Great.wpList_buildTo rfl 51 _ rfl (some 32) rfl tbl.toArray (by kernel_rfl) ?_)
    | (refine wpList_store_new rfl 51 (.tmp 3) (.tmp 32) rfl _ _ tbl.toArray rfl (by simp [Act.eval, Act.put]) (by simp only [Act.eval]; kernel_rfl) sz72 (by kernel_rfl) tbl_one ?_)
    | (refine wpList_load_mid rfl 46 (.tmp 34) rfl (w.heap.size + 1) (j * 4) (by simp [Act.eval, Act.put]) _ _ (HR.out _ _ 51 (heap_alloc2_new _ _ _)) Try.underlying46 rfl (sz59 _ _ _ _) ?_))
  go_returns
  exact ⟨rfl, by go_grown⟩

theorem of_any (f : Int) (w : World) :
    Calls Try.prog 20 #[.int .i64 f] w fun e w' => e = .returned (ofv f) ∧ Below w.heap.size w w' := by
  by_cases h : 0 ≤ f ∧ f < 24
  · obtain ⟨j, rfl⟩ : ∃ j : Nat, f = (j : Int) := ⟨f.toNat, by omega⟩
    exact of_in j w (by omega)
  · refine of_no f w ?_
    simp [fok]; omega

end Go.Proofs.Ytmpfpolanndakab
