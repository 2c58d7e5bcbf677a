import Derived.Test.YtmpfpolanndakabProg
import Derived.Test.YtmpfpolanndakabK
import Derived.Test.YtmpfpolanndakabG
import Derived.Test.YtmpfpolanndakabR
import Derived.Test.YtmpfpolanndakabW
import Derived.Test.YtmpfpolanndakabFa
import Derived.Test.YtmpfpolanndakabFe
import Derived.Test.YtmpfpolanndakabFf
import Derived.Test.YtmpfpolanndakabHa
import Derived.Test.YtmpfpolanndakabHb
import Derived.Below
import Derived.BigQuiet
import Derived.BigRegion
import Derived.ChangeAlike
import Derived.ChangeKeysEq
import Derived.ChangeSame
import Derived.DataElems
import Derived.Deep.MidRow
import Derived.Deep.QuietTactic
import Derived.Deep.RegionHeld
import Derived.Deep.RegionHeld3
import Derived.Deep.RegionLaw
import Derived.Deep.RegionLawGrows
import Derived.Deep.RegionWith
import Derived.Deep.WholeRow
import Derived.Great.BuildSlice
import Derived.Handy
import Derived.Laws.AppendOwn
import Derived.Laws.AppendOwnNone
import Derived.Laws.BitsAllLaws
import Derived.Laws.BitsLemmas
import Derived.Laws.CopyOwn
import Derived.Laws.OwnMore
import Derived.Laws.Rows
import Derived.Laws.StructEq
import Derived.Lib.SmallJoins
import Derived.OpenShut
import Derived.ProofKit
import Derived.RegionTactic
import Derived.WalkKit
import Derived.WalkLawsBesides
import Derived.WalkSmall
import Derived.WalkSpells
import Derived.WideShapes
namespace Go.Proofs.Ytmpfpolanndakab
open Go Go.RowKit
set_option linter.unusedVariables false
set_option linter.unusedSimpArgs false

theorem szH {l : List (Nat × Nat)} (h : l.length = 24) : (Try.prog.info? 26).map (·.size) = some (wdc l).toArray.size := by
  have e : (wdc l).toArray.size = 48 := by simp [wdc_length, h]
  exact Eq.trans (by kernel_rfl : (Try.prog.info? 26).map (·.size) = some 48) (by rw [e])

def z24 : List (Nat × Nat) := List.replicate 24 (0, 0)

theorem z24_len : z24.length = 24 := by simp [z24]

theorem z24_isH : isH z24 := ⟨z24_len, fun p hp => by have := List.eq_of_mem_replicate hp; subst this; exact ⟨by decide, by decide⟩⟩

theorem HB.zero (w : World) : HB (w.alloc (.cells #[.int .u64 0, .int .u64 0, .int .u64 0, .int .u64 0, .int .u64 0, .int .u64 0, .int .u64 0, .int .u64 0, .int .u64 0, .int .u64 0, .int .u64 0, .int .u64 0, .int .u64 0, .int .u64 0, .int .u64 0, .int .u64 0, .int .u64 0, .int .u64 0, .int .u64 0, .int .u64 0, .int .u64 0, .int .u64 0, .int .u64 0, .int .u64 0, .int .u64 0, .int .u64 0, .int .u64 0, .int .u64 0, .int .u64 0, .int .u64 0, .int .u64 0, .int .u64 0, .int .u64 0, .int .u64 0, .int .u64 0, .int .u64 0, .int .u64 0, .int .u64 0, .int .u64 0, .int .u64 0, .int .u64 0, .int .u64 0, .int .u64 0, .int .u64 0, .int .u64 0, .int .u64 0, .int .u64 0, .int .u64 0] 26)) w.heap.size z24 := heap_alloc_last w _

/-- a header is loaded whole -/
theorem wpList_loadH {ops : Array Oper} {rest : List Oper} {o : Oper} {a : Act} {w : World} {Q : Exit → Act → World → Prop} (hgd : o.guard = none) (x : Operand) (ho : o.op = .load 26 x)
    (g : Nat) (hx : a.eval x = .pointer (some ⟨g, 0, none⟩)) (l : List (Nat × Nat)) (hl : l.length = 24) (h0 : HB w g l)
    (h : wpList Try.prog ops Q rest (a.put o.dst (.agg (wdc l).toArray)) w) : wpList Try.prog ops Q (o :: rest) a w :=
  wpList_load_row hgd 26 x ho g hx 26 (wdc l).toArray (0, 0) _ h0 Try.underlying26 rfl (szH hl) h

theorem below_setRow (w : World) (g B : Nat) (cs : Array Value) (hB : B ≤ g) : Below B w (w.setRow g cs) := by
  refine ⟨rfl, rfl, rfl, by simp, fun k hk => ?_⟩
  unfold World.setRow
  rw [Array.getElem?_modify, if_neg (by omega)]

/-- a header is stored whole -/
theorem wpList_storeH {ops : Array Oper} {rest : List Oper} {o : Oper} {a : Act} {w : World} {Q : Exit → Act → World → Prop} (hgd : o.guard = none) (x y : Operand) (ho : o.op = .store 26 x y)
    (g : Nat) (hx : a.eval x = .pointer (some ⟨g, 0, none⟩)) (l0 l : List (Nat × Nat)) (hl0 : l0.length = 24) (hl : l.length = 24) (hy : a.eval y = .agg (wdc l).toArray) (h0 : HB w g l0)
    (h : ∀ w', HB w' g l → (∀ B, B ≤ g → Below B w w') → wpList Try.prog ops Q rest (a.put o.dst undef) w') : wpList Try.prog ops Q (o :: rest) a w := by
  refine wpList_store_row hgd 26 x y ho g (wdc l).toArray hx hy 26 (wdc l0).toArray h0 (szH hl) (by simp [wdc_length, hl, hl0]) (all_oneCell_toArray (wdc_one l)) ?_
  exact h _ (setRow_heap w g _ _ 26 _ h0) (fun B hB => below_setRow w g B _ hB)

theorem results_H {fn : Func} {p : Tmp} (h : fn.results = #[.cell p 26]) (tmps : Array Value) (w : World) (g : Nat) (l : List (Nat × Nat)) (hl : l.length = 24) (hp : tmps.getD p undef = .pointer (some ⟨g, 0, none⟩)) (hg : HB w g l) :
    (results fn tmps).run Try.prog w = .ok (hv l) w :=
  results_cell_row h tmps w g 26 (wdc l).toArray (0, 0) _ hp hg Try.underlying26 rfl (szH hl)

set_option maxRecDepth 100000 in
set_option maxHeartbeats 2000000 in
theorem hset_any (l : List (Nat × Nat)) (hl : isH l) (f : Int) (x y : Nat) (w : World) :
    Calls Try.prog 7 #[hv l, .int .i64 f, wd x y] w fun e w' => e = .returned (hv (hset l f (x, y))) ∧ Below w.heap.size w w' := by
  by_cases h : 0 ≤ f ∧ f < 24
  · obtain ⟨j, rfl⟩ : ∃ j : Nat, f = (j : Int) := ⟨f.toNat, by omega⟩
    have hj : j < 24 := by omega
    have q1 := hide_ (fun w => fright_any (j : Int) w)
    rw [fok_in hj] at q1
    have hj' : (j : Int) < 24 := by omega
    have es : hset l (j : Int) (x, y) = l.set j (x, y) := by simp [hset]
    rw [es]
    have hls : Hid ((l.set j (x, y)).length = 24) := hide_ (by simp [hl.1])
    clear es
    obtain ⟨x0, y0, hp, _, _⟩ := hl.get hj
    generalize hL : l.set j (x, y) = L at *
    unfold hv wd
    go_enter Try.func7, Try.ntmps7
    go_wp2_with fail
    have hA : Hid (HB (((w.alloc (.cells (wdc l).toArray 26)).alloc (.cells #[.int .u64 (x : Int), .int .u64 (y : Int)] 24)).alloc (.cells #[.int .u64 0, .int .u64 0, .int .u64 0, .int .u64 0, .int .u64 0, .int .u64 0, .int .u64 0, .int .u64 0, .int .u64 0, .int .u64 0, .int .u64 0, .int .u64 0, .int .u64 0, .int .u64 0, .int .u64 0, .int .u64 0, .int .u64 0, .int .u64 0, .int .u64 0, .int .u64 0, .int .u64 0, .int .u64 0, .int .u64 0, .int .u64 0, .int .u64 0, .int .u64 0, .int .u64 0, .int .u64 0, .int .u64 0, .int .u64 0, .int .u64 0, .int .u64 0, .int .u64 0, .int .u64 0, .int .u64 0, .int .u64 0, .int .u64 0, .int .u64 0, .int .u64 0, .int .u64 0, .int .u64 0, .int .u64 0, .int .u64 0, .int .u64 0, .int .u64 0, .int .u64 0, .int .u64 0, .int .u64 0] 26)) w.heap.size l) := hide_ ((HB.new w l).later (by go_grown))
    have hZ : Hid (HB (((w.alloc (.cells (wdc l).toArray 26)).alloc (.cells #[.int .u64 (x : Int), .int .u64 (y : Int)] 24)).alloc (.cells #[.int .u64 0, .int .u64 0, .int .u64 0, .int .u64 0, .int .u64 0, .int .u64 0, .int .u64 0, .int .u64 0, .int .u64 0, .int .u64 0, .int .u64 0, .int .u64 0, .int .u64 0, .int .u64 0, .int .u64 0, .int .u64 0, .int .u64 0, .int .u64 0, .int .u64 0, .int .u64 0, .int .u64 0, .int .u64 0, .int .u64 0, .int .u64 0, .int .u64 0, .int .u64 0, .int .u64 0, .int .u64 0, .int .u64 0, .int .u64 0, .int .u64 0, .int .u64 0, .int .u64 0, .int .u64 0, .int .u64 0, .int .u64 0, .int .u64 0, .int .u64 0, .int .u64 0, .int .u64 0, .int .u64 0, .int .u64 0, .int .u64 0, .int .u64 0, .int .u64 0, .int .u64 0, .int .u64 0, .int .u64 0] 26)) (w.heap.size + 1 + 1) z24) := hide_ (by have := HB.zero ((w.alloc (.cells (wdc l).toArray 26)).alloc (.cells #[.int .u64 (x : Int), .int .u64 (y : Int)] 24)); simpa using this)
    have hV : Hid (Pair (((w.alloc (.cells (wdc l).toArray 26)).alloc (.cells #[.int .u64 (x : Int), .int .u64 (y : Int)] 24)).alloc (.cells #[.int .u64 0, .int .u64 0, .int .u64 0, .int .u64 0, .int .u64 0, .int .u64 0, .int .u64 0, .int .u64 0, .int .u64 0, .int .u64 0, .int .u64 0, .int .u64 0, .int .u64 0, .int .u64 0, .int .u64 0, .int .u64 0, .int .u64 0, .int .u64 0, .int .u64 0, .int .u64 0, .int .u64 0, .int .u64 0, .int .u64 0, .int .u64 0, .int .u64 0, .int .u64 0, .int .u64 0, .int .u64 0, .int .u64 0, .int .u64 0, .int .u64 0, .int .u64 0, .int .u64 0, .int .u64 0, .int .u64 0, .int .u64 0, .int .u64 0, .int .u64 0, .int .u64 0, .int .u64 0, .int .u64 0, .int .u64 0, .int .u64 0, .int .u64 0, .int .u64 0, .int .u64 0, .int .u64 0, .int .u64 0] 26)) (w.heap.size + 1) (.int .u64 (x : Int)) (.int .u64 (y : Int))) := ⟨by simp [go_sem], by simp [go_sem], by simp [go_sem], by simp [go_sem]⟩
    have hB : Hid (Below w.heap.size w (((w.alloc (.cells (wdc l).toArray 26)).alloc (.cells #[.int .u64 (x : Int), .int .u64 (y : Int)] 24)).alloc (.cells #[.int .u64 0, .int .u64 0, .int .u64 0, .int .u64 0, .int .u64 0, .int .u64 0, .int .u64 0, .int .u64 0, .int .u64 0, .int .u64 0, .int .u64 0, .int .u64 0, .int .u64 0, .int .u64 0, .int .u64 0, .int .u64 0, .int .u64 0, .int .u64 0, .int .u64 0, .int .u64 0, .int .u64 0, .int .u64 0, .int .u64 0, .int .u64 0, .int .u64 0, .int .u64 0, .int .u64 0, .int .u64 0, .int .u64 0, .int .u64 0, .int .u64 0, .int .u64 0, .int .u64 0, .int .u64 0, .int .u64 0, .int .u64 0, .int .u64 0, .int .u64 0, .int .u64 0, .int .u64 0, .int .u64 0, .int .u64 0, .int .u64 0, .int .u64 0, .int .u64 0, .int .u64 0, .int .u64 0, .int .u64 0] 26))) := hide_ (by go_grown)
    generalize ((w.alloc (.cells (wdc l).toArray 26)).alloc (.cells #[.int .u64 (x : Int), .int .u64 (y : Int)] 24)).alloc (.cells #[.int .u64 0, .int .u64 0, .int .u64 0, .int .u64 0, .int .u64 0, .int .u64 0, .int .u64 0, .int .u64 0, .int .u64 0, .int .u64 0, .int .u64 0, .int .u64 0, .int .u64 0, .int .u64 0, .int .u64 0, .int .u64 0, .int .u64 0, .int .u64 0, .int .u64 0, .int .u64 0, .int .u64 0, .int .u64 0, .int .u64 0, .int .u64 0, .int .u64 0, .int .u64 0, .int .u64 0, .int .u64 0, .int .u64 0, .int .u64 0, .int .u64 0, .int .u64 0, .int .u64 0, .int .u64 0, .int .u64 0, .int .u64 0, .int .u64 0, .int .u64 0, .int .u64 0, .int .u64 0, .int .u64 0, .int .u64 0, .int .u64 0, .int .u64 0, .int .u64 0, .int .u64 0, .int .u64 0, .int .u64 0] 26) = W at *
    obtain ⟨a0, a1, a2, a3⟩ := hA.out.cells hp
    obtain ⟨v0, v1, v2, v3⟩ := hV.out
    have HL := hide_ hL
    clear hL hp h
    go_wp2_with (first | (go_at_call 5; refine (q1.out _).mono ?_; rintro e w1 ⟨rfl, rfl⟩) | (refine wpList_loadH rfl (.tmp 3) rfl w.heap.size (by simp [Act.eval, Act.put]) L hls.out (by rw [← HL.out]; exact hA.out.set j x y) ?_) | (refine wpList_storeH rfl (.tmp 6) (.tmp 12) rfl (w.heap.size + 1 + 1) (by simp [Act.eval, Act.put]) z24 L z24_len hls.out (by simp [Act.eval, Act.put]) ((hZ.out.far _ (by omega)).far _ (by omega)) ?_; intro w2 h2 b2))
    exact bodyPost_ret (results_H Try.results7 _ _ (w.heap.size + 1 + 1) L hls.out rfl h2) rfl ⟨rfl, ((hB.out.setCell (by simp) _).setCell (by simp) _).trans (b2 _ (by omega))⟩
  · rw [hset_out hl.1 h]
    have q1 := hide_ (fun w => fright_any f w)
    rw [fok_no h] at q1
    unfold hv wd
    clear h
    go_enter Try.func7, Try.ntmps7
    go_wp2_with fail
    have hA : Hid (HB (((w.alloc (.cells (wdc l).toArray 26)).alloc (.cells #[.int .u64 (x : Int), .int .u64 (y : Int)] 24)).alloc (.cells #[.int .u64 0, .int .u64 0, .int .u64 0, .int .u64 0, .int .u64 0, .int .u64 0, .int .u64 0, .int .u64 0, .int .u64 0, .int .u64 0, .int .u64 0, .int .u64 0, .int .u64 0, .int .u64 0, .int .u64 0, .int .u64 0, .int .u64 0, .int .u64 0, .int .u64 0, .int .u64 0, .int .u64 0, .int .u64 0, .int .u64 0, .int .u64 0, .int .u64 0, .int .u64 0, .int .u64 0, .int .u64 0, .int .u64 0, .int .u64 0, .int .u64 0, .int .u64 0, .int .u64 0, .int .u64 0, .int .u64 0, .int .u64 0, .int .u64 0, .int .u64 0, .int .u64 0, .int .u64 0, .int .u64 0, .int .u64 0, .int .u64 0, .int .u64 0, .int .u64 0, .int .u64 0, .int .u64 0, .int .u64 0] 26)) w.heap.size l) := hide_ ((HB.new w l).later (by go_grown))
    have hZ : Hid (HB (((w.alloc (.cells (wdc l).toArray 26)).alloc (.cells #[.int .u64 (x : Int), .int .u64 (y : Int)] 24)).alloc (.cells #[.int .u64 0, .int .u64 0, .int .u64 0, .int .u64 0, .int .u64 0, .int .u64 0, .int .u64 0, .int .u64 0, .int .u64 0, .int .u64 0, .int .u64 0, .int .u64 0, .int .u64 0, .int .u64 0, .int .u64 0, .int .u64 0, .int .u64 0, .int .u64 0, .int .u64 0, .int .u64 0, .int .u64 0, .int .u64 0, .int .u64 0, .int .u64 0, .int .u64 0, .int .u64 0, .int .u64 0, .int .u64 0, .int .u64 0, .int .u64 0, .int .u64 0, .int .u64 0, .int .u64 0, .int .u64 0, .int .u64 0, .int .u64 0, .int .u64 0, .int .u64 0, .int .u64 0, .int .u64 0, .int .u64 0, .int .u64 0, .int .u64 0, .int .u64 0, .int .u64 0, .int .u64 0, .int .u64 0, .int .u64 0] 26)) (w.heap.size + 1 + 1) z24) := hide_ (by have := HB.zero ((w.alloc (.cells (wdc l).toArray 26)).alloc (.cells #[.int .u64 (x : Int), .int .u64 (y : Int)] 24)); simpa using this)
    have hV : Hid (Pair (((w.alloc (.cells (wdc l).toArray 26)).alloc (.cells #[.int .u64 (x : Int), .int .u64 (y : Int)] 24)).alloc (.cells #[.int .u64 0, .int .u64 0, .int .u64 0, .int .u64 0, .int .u64 0, .int .u64 0, .int .u64 0, .int .u64 0, .int .u64 0, .int .u64 0, .int .u64 0, .int .u64 0, .int .u64 0, .int .u64 0, .int .u64 0, .int .u64 0, .int .u64 0, .int .u64 0, .int .u64 0, .int .u64 0, .int .u64 0, .int .u64 0, .int .u64 0, .int .u64 0, .int .u64 0, .int .u64 0, .int .u64 0, .int .u64 0, .int .u64 0, .int .u64 0, .int .u64 0, .int .u64 0, .int .u64 0, .int .u64 0, .int .u64 0, .int .u64 0, .int .u64 0, .int .u64 0, .int .u64 0, .int .u64 0, .int .u64 0, .int .u64 0, .int .u64 0, .int .u64 0, .int .u64 0, .int .u64 0, .int .u64 0, .int .u64 0] 26)) (w.heap.size + 1) (.int .u64 (x : Int)) (.int .u64 (y : Int))) := ⟨by simp [go_sem], by simp [go_sem], by simp [go_sem], by simp [go_sem]⟩
    have hB : Hid (Below w.heap.size w (((w.alloc (.cells (wdc l).toArray 26)).alloc (.cells #[.int .u64 (x : Int), .int .u64 (y : Int)] 24)).alloc (.cells #[.int .u64 0, .int .u64 0, .int .u64 0, .int .u64 0, .int .u64 0, .int .u64 0, .int .u64 0, .int .u64 0, .int .u64 0, .int .u64 0, .int .u64 0, .int .u64 0, .int .u64 0, .int .u64 0, .int .u64 0, .int .u64 0, .int .u64 0, .int .u64 0, .int .u64 0, .int .u64 0, .int .u64 0, .int .u64 0, .int .u64 0, .int .u64 0, .int .u64 0, .int .u64 0, .int .u64 0, .int .u64 0, .int .u64 0, .int .u64 0, .int .u64 0, .int .u64 0, .int .u64 0, .int .u64 0, .int .u64 0, .int .u64 0, .int .u64 0, .int .u64 0, .int .u64 0, .int .u64 0, .int .u64 0, .int .u64 0, .int .u64 0, .int .u64 0, .int .u64 0, .int .u64 0, .int .u64 0, .int .u64 0] 26))) := hide_ (by go_grown)
    generalize ((w.alloc (.cells (wdc l).toArray 26)).alloc (.cells #[.int .u64 (x : Int), .int .u64 (y : Int)] 24)).alloc (.cells #[.int .u64 0, .int .u64 0, .int .u64 0, .int .u64 0, .int .u64 0, .int .u64 0, .int .u64 0, .int .u64 0, .int .u64 0, .int .u64 0, .int .u64 0, .int .u64 0, .int .u64 0, .int .u64 0, .int .u64 0, .int .u64 0, .int .u64 0, .int .u64 0, .int .u64 0, .int .u64 0, .int .u64 0, .int .u64 0, .int .u64 0, .int .u64 0, .int .u64 0, .int .u64 0, .int .u64 0, .int .u64 0, .int .u64 0, .int .u64 0, .int .u64 0, .int .u64 0, .int .u64 0, .int .u64 0, .int .u64 0, .int .u64 0, .int .u64 0, .int .u64 0, .int .u64 0, .int .u64 0, .int .u64 0, .int .u64 0, .int .u64 0, .int .u64 0, .int .u64 0, .int .u64 0, .int .u64 0, .int .u64 0] 26) = W at *
    go_wp2_with (first | (go_at_call 5; refine (q1.out _).mono ?_; rintro e w1 ⟨rfl, rfl⟩) | (refine wpList_loadH rfl (.tmp 3) rfl w.heap.size (by simp [Act.eval, Act.put]) l hl.1 hA.out ?_) | (refine wpList_storeH rfl (.tmp 6) (.tmp 12) rfl (w.heap.size + 1 + 1) (by simp [Act.eval, Act.put]) z24 l z24_len hl.1 (by simp [Act.eval, Act.put]) hZ.out ?_; intro w2 h2 b2))
    exact bodyPost_ret (results_H Try.results7 _ _ (w.heap.size + 1 + 1) l hl.1 rfl h2) rfl ⟨rfl, hB.out.trans (b2 _ (by omega))⟩

end Go.Proofs.Ytmpfpolanndakab
