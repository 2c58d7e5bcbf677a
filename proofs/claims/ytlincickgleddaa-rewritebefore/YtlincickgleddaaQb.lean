import Derived.Test.YtlincickgleddaaProg
import Derived.Test.YtlincickgleddaaK
import Derived.Test.YtlincickgleddaaV
import Derived.Test.YtlincickgleddaaGa
import Derived.Test.YtlincickgleddaaTb
import Derived.Test.YtlincickgleddaaQa
import Derived.Below
import Derived.BigQuiet
import Derived.BigRegion
import Derived.ChangeAlike
import Derived.ChangeKeysEq
import Derived.ChangeSame
import Derived.DataElems
import Derived.Deep.MidRow
import Derived.Deep.QuietTactic
import Derived.Deep.RegionHeld
import Derived.Deep.RegionHeld3
import Derived.Deep.RegionLaw
import Derived.Deep.RegionLawGrows
import Derived.Deep.RegionWith
import Derived.Deep.WholeRow
import Derived.Great.BuildSlice
import Derived.Handy
import Derived.Laws.AppendOwn
import Derived.Laws.AppendOwnNone
import Derived.Laws.BitsAllLaws
import Derived.Laws.BitsLemmas
import Derived.Laws.CopyOwn
import Derived.Laws.OwnMore
import Derived.Laws.Rows
import Derived.Laws.StructEq
import Derived.Laws.Tables
import Derived.Lib.BitFns
import Derived.Lib.SmallJoins
import Derived.OpenShut
import Derived.ProofKit
import Derived.RegionTactic
import Derived.WalkKit
import Derived.WalkLawsBesides
import Derived.WalkSmall
import Derived.WalkSpells
import Derived.WideShapes
namespace Go.Proofs.Ytlincickgleddaa
open Go Go.RowKit
set_option linter.unusedVariables false
set_option linter.unusedSimpArgs false

def allB (p : Nat → Bool) (n : Nat) : Bool := (List.range n).all p

theorem allB_succ (p : Nat → Bool) (n : Nat) : allB p (n + 1) = (allB p n && p n) := by
  unfold allB; rw [List.range_succ, List.all_append]; simp

theorem allB_false {p : Nat → Bool} {k n : Nat} (hk : k < n) (h : p k = false) : allB p n = false := by
  rw [Bool.eq_false_iff]
  intro e
  unfold allB at e
  rw [List.all_eq_true] at e
  have := e k (List.mem_range.2 hk)
  rw [h] at this
  cases this

set_option maxRecDepth 100000 in
set_option maxHeartbeats 1000000 in
theorem every_has (v0 v1 : Value) (p : Nat → Bool) (w : World) (hC : ∀ k : Nat, k < 24 → ∀ W, Below w.heap.size w W → Calls Try.prog 45 #[.int .i64 (k : Int), v0, v1] W fun e W' => e = .returned (.bool (p k)) ∧ Below W.heap.size W W') :
    Calls Try.prog 44 #[.func (.func 45) #[] #[v0, v1]] w fun e w' => e = .returned (.bool (allB p 24)) ∧ Below w.heap.size w w' := by
  have HC := hide_ hC
  clear hC
  obtain ⟨z, hz⟩ : ∃ z, allB p 24 = z := ⟨_, rfl⟩
  have HZ := hide_ hz
  rw [hz]
  clear hz
  go_enter Try.func44, Try.ntmps44
  go_wp2_with fail
  go_loopw [3, 4] (fun i k wr => ∃ j : Nat, j ≤ 24 ∧ k = .int .i64 (j : Int) ∧ Hid (allB p j = true) ∧ Below w.heap.size w wr) (fun _ k _ => 24 - (intOf k).toNat)
  case atStart => exact ⟨0, by omega, rfl, hide_ rfl, Below.refl _ _⟩
  case round =>
    obtain ⟨j, hj, rfl, HP, hb⟩ := hrel
    by_cases hlt : j < 24
    · have hlt' : (j : Int) < 24 := by omega
      have q := hide_ (HC.out j hlt wr hb)
      cases hp : p j
      · rw [hp] at q
        have HE : Hid (false = z) := hide_ (by rw [← HZ.out, allB_false hlt hp])
        go_wp2_with (go_at_call 45; refine q.out.mono ?_; rintro e w1 ⟨rfl, b1⟩)
        go_ret
        exact ⟨ret_bool HE.out, hb.trans (b1.mono hb.size)⟩
      · rw [hp] at q
        have HE : Hid (allB p (j + 1) = true) := hide_ (by rw [allB_succ, HP.out, hp]; rfl)
        go_wp2_with (go_at_call 45; refine q.out.mono ?_; rintro e w1 ⟨rfl, b1⟩)
        go_roundw
        case rel => exact ⟨j + 1, by omega, by go_num, HE, hb.trans (b1.mono hb.size)⟩
        case measure => simp [intOf]; omega
    · have hlt' : ¬ (j : Int) < 24 := by omega
      have e : j = 24 := by omega
      subst e
      have HE : Hid (true = z) := hide_ (by rw [← HZ.out, HP.out])
      go_wp2_with fail
      go_ret
      exact ⟨ret_bool HE.out, hb⟩

def td4 (q : Q4) : Value := td q.1 q.2.1 q.2.2.1 q.2.2.2

def z24q : List Q4 := List.replicate 24 (0, 0, 0, 0)

/-- the first k of t's terns, then zeros -/
def mapK (t : Nat → Q4) (k : Nat) : List Q4 := (List.range k).map t ++ List.replicate (24 - k) (0, 0, 0, 0)

def mapB (t : Nat → Q4) (p : Nat → Bool) : List Q4 := match allB p 24 with | true => (List.range 24).map t | false => z24q

theorem z24q_len : z24q.length = 24 := by simp [z24q]

theorem zcC : (tdc z24q).toArray = (tdc z24q).toArray := by kernel_rfl
theorem zC' : (Try.prog.info? 29).map (fun i => (i.zero, i.size)) = some (some (.agg (tdc z24q).toArray), 96) := by kernel_rfl

theorem mapK_len (t : Nat → Q4) (k : Nat) (h : k ≤ 24) : (mapK t k).length = 24 := by simp [mapK]; omega

theorem mapK_all (t : Nat → Q4) : mapK t 24 = (List.range 24).map t := by simp [mapK]

theorem mapK_at (t : Nat → Q4) (k : Nat) (h : k < 24) : (mapK t k)[k]? = some (0, 0, 0, 0) := by
  unfold mapK
  rw [List.getElem?_append_right (by simp), List.getElem?_replicate]
  simp; omega

theorem mapK_set (t : Nat → Q4) (k : Nat) (h : k < 24) : (mapK t k).set k (t k) = mapK t (k + 1) := by
  unfold mapK
  rw [List.set_append_right _ _ (by simp)]
  have e : 24 - k = (24 - (k + 1)) + 1 := by omega
  rw [e, List.replicate_succ, List.range_succ]
  simp

theorem mapB_true {t : Nat → Q4} {p : Nat → Bool} (h : allB p 24 = true) : mapB t p = mapK t 24 := by unfold mapB; rw [h, mapK_all]

theorem mapB_false {t : Nat → Q4} {p : Nat → Bool} (h : allB p 24 = false) : mapB t p = z24q := by unfold mapB; rw [h]

theorem szC {l : List Q4} (h : l.length = 24) : (Try.prog.info? 29).map (·.size) = some (tdc l).length := by
  have e : (tdc l).length = 96 := by rw [tdc_length, h]
  exact Eq.trans (by kernel_rfl : (Try.prog.info? 29).map (·.size) = some 96) (by rw [e])

theorem zero_at0 (w : World) (o : Obj) : AB ((w.alloc (.cells (tdc z24q).toArray 29)).alloc o) w.heap.size 29 (tdc z24q) := by
  rw [zcC]; exact (AB.at0 w 29 (tdc z24q)).alloc o

theorem zero_at1 (w : World) (o : Obj) : AB ((w.alloc o).alloc (.cells (tdc z24q).toArray 29)) (w.heap.size + 1) 29 (tdc z24q) := by
  rw [zcC]; exact AB.at1 w o 29 (tdc z24q)

theorem AB.setq {w : World} {g : Nat} {ty : TypeId} {l : List Q4} (h : AB w g ty (tdc l)) (k a b c d : Nat) : AB ((((w.setCell ⟨g, k * 4, none⟩ (.int .u64 (a : Int))).setCell ⟨g, k * 4 + 1, none⟩ (.int .u64 (b : Int))).setCell ⟨g, k * 4 + 2, none⟩ (.int .u64 (c : Int))).setCell ⟨g, k * 4 + 3, none⟩ (.int .u64 (d : Int))) g ty (tdc (l.set k (a, b, c, d))) := by
  rw [← tdc_set]
  exact (((h.set (j := k * 4) _).set (j := k * 4 + 1) _).set (j := k * 4 + 2) _).set (j := k * 4 + 3) _

theorem below_fillq {w0 w : World} {g n : Nat} (h : Below n w0 w) (hg : n ≤ g) (i0 i1 i2 i3 : Nat) (x y z u : Value) : Below n w0 ((((w.setCell ⟨g, i0, none⟩ x).setCell ⟨g, i1, none⟩ y).setCell ⟨g, i2, none⟩ z).setCell ⟨g, i3, none⟩ u) :=
  (((h.setCell hg x).setCell hg y).setCell hg z).setCell hg u

set_option maxRecDepth 100000 in
set_option maxHeartbeats 2000000 in
theorem build_meet (v0 v1 : Value) (t : Nat → Q4) (p : Nat → Bool) (w : World) (hC : ∀ k : Nat, k < 24 → ∀ W, Below w.heap.size w W → Calls Try.prog 48 #[.int .i64 (k : Int), v0, v1] W fun e W' => e = .returned (.tuple #[td4 (t k), .bool (p k)]) ∧ Below W.heap.size W W') :
    Calls Try.prog 47 #[.func (.func 48) #[] #[v0, v1]] w fun e w' => e = .returned (.tuple #[cv (mapB t p), .bool (allB p 24)]) ∧ Below w.heap.size w w' := by
  have HC := hide_ hC
  clear hC
  obtain ⟨R, hR⟩ : ∃ R, Value.tuple #[cv (mapB t p), .bool (allB p 24)] = R := ⟨_, rfl⟩
  have HT : Hid (allB p 24 = true → Value.tuple #[.agg (tdc (mapK t 24)).toArray, .bool true] = R) := hide_ (fun h => by rw [← hR, mapB_true h, h]; rfl)
  have HF : Hid (allB p 24 = false → Value.tuple #[.agg (tdc z24q).toArray, .bool false] = R) := hide_ (fun h => by rw [← hR, mapB_false h, h]; rfl)
  rw [hR]
  clear hR
  have Z0 := hide_ (zero_at0 w (.cells (tdc z24q).toArray 29))
  have Z1 := hide_ (zero_at1 w (.cells (tdc z24q).toArray 29))
  have B0 := hide_ (below2 w (.cells (tdc z24q).toArray 29) (.cells (tdc z24q).toArray 29))
  obtain ⟨hz0, -⟩ := zero_of_info zC'
  go_enter Try.func47, Try.ntmps47
  go_wp2_with fail
  generalize (w.alloc (.cells (tdc z24q).toArray 29)).alloc (.cells (tdc z24q).toArray 29) = W at *
  go_loopw [5, 6, 7, 8] (fun _ _ _ i wr => ∃ j : Nat, j ≤ 24 ∧ i = .int .i64 (j : Int) ∧ Hid (allB p j = true) ∧ Hid (AB wr (w.heap.size + 1) 29 (tdc (mapK t j))) ∧ Hid (AB wr w.heap.size 29 (tdc z24q)) ∧ Below w.heap.size w wr) (fun _ _ _ i _ => 24 - (intOf i).toNat)
  case atStart => exact ⟨0, by omega, rfl, hide_ rfl, Z1, Z0, B0.out⟩
  case round =>
    obtain ⟨j, hj, rfl, HP, HA, HZ, hb⟩ := hrel
    by_cases hlt : j < 24
    · have hlt' : (j : Int) < 24 := by omega
      have hj0 : (0 : Int) ≤ (j : Int) := by omega
      have q := HC.out j hlt wr hb
      have HQ := hide_ (mapK_at t j hlt)
      have HS := hide_ (mapK_set t j hlt)
      generalize t j = tj at *
      obtain ⟨a, b, c, d⟩ := tj
      unfold td4 td at q
      dsimp only at q
      have q := hide_ q
      cases hp : p j
      · rw [hp] at q
        have HE := hide_ (HF.out (allB_false hlt hp))
        go_wp2_with (first | (go_at_call 48; refine q.out.mono ?_; rintro e w1 ⟨rfl, b1⟩; have bb := hb.trans (b1.mono hb.size); have HZ1 := hide_ ((HZ.out.later b1).alloc (.cells #[.int .u64 (a : Int), .int .u64 (b : Int), .int .u64 (c : Int), .int .u64 (d : Int)] 26))) | (refine wpList_storeA rfl (.tmp 2) (.tmp 19) rfl w.heap.size (by simp [Act.eval, Act.put]) (tdc z24q) (tdc z24q) rfl (szC z24q_len) (tdc_one _) (by simp [Act.eval, Act.put]) HZ1.out ?_))
        exact bodyPost_ret (results_A2 Try.underlying29 Try.results47 _ _ w.heap.size (tdc z24q) (.bool false) (szC z24q_len) rfl rfl HZ1.out.row) rfl ⟨congrArg _ HE.out, (bb.alloc bb.size _).trans (below_row _ _ _ _ (Nat.le_refl _))⟩
      · rw [hp] at q
        have HE : Hid (allB p (j + 1) = true) := hide_ (by rw [allB_succ, HP.out, hp]; rfl)
        go_wp2_with (go_at_call 48; refine q.out.mono ?_; rintro e w1 ⟨rfl, b1⟩; have bb := hb.trans (b1.mono hb.size); have HA1 := hide_ ((HA.out.later b1).alloc (.cells #[.int .u64 (a : Int), .int .u64 (b : Int), .int .u64 (c : Int), .int .u64 (d : Int)] 26)); have HZ1 := hide_ ((HZ.out.later b1).alloc (.cells #[.int .u64 (a : Int), .int .u64 (b : Int), .int .u64 (c : Int), .int .u64 (d : Int)] 26)); obtain ⟨c0, c1, c2, c3, f0, f1, f2, f3⟩ := HA1.out.quad HQ.out)
        go_roundw
        case rel => exact ⟨j + 1, by omega, by go_num, HE, by rw [← HS.out]; exact hide_ (HA1.out.setq j a b c d), hide_ ((((HZ1.out.far _ (by omega)).far _ (by omega)).far _ (by omega)).far _ (by omega)), below_fillq (bb.alloc bb.size _) (Nat.le_succ _) _ _ _ _ _ _ _ _⟩
        case measure => simp [intOf]; omega
    · have hlt' : ¬ (j : Int) < 24 := by omega
      have e : j = 24 := by omega
      subst e
      have HE := hide_ (HT.out HP.out)
      go_wp2_with (first | (refine wpList_loadA Try.underlying29 rfl (.tmp 4) rfl (w.heap.size + 1) (by simp [Act.eval, Act.put]) (tdc (mapK t 24)) (szC (mapK_len t 24 (Nat.le_refl _))) HA.out ?_) | (refine wpList_storeA rfl (.tmp 2) (.tmp 24) rfl w.heap.size (by simp [Act.eval, Act.put]) (tdc z24q) (tdc (mapK t 24)) (by rw [tdc_length, tdc_length, mapK_len t 24 (Nat.le_refl _), z24q_len]) (szC (mapK_len t 24 (Nat.le_refl _))) (tdc_one _) (by simp [Act.eval, Act.put]) HZ.out ?_))
      exact bodyPost_ret (results_A2 Try.underlying29 Try.results47 _ _ w.heap.size (tdc (mapK t 24)) (.bool true) (szC (mapK_len t 24 (Nat.le_refl _))) rfl rfl HZ.out.row) rfl ⟨congrArg _ HE.out, hb.trans (below_row _ _ _ _ (Nat.le_refl _))⟩

end Go.Proofs.Ytlincickgleddaa
