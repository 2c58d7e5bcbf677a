import Derived.Test.YtbdbehdgpmfelaaXb
import Derived.Test.YtbdbehdgpmfelaaXf
import Derived.Test.YtbdbehdgpmfelaaXh
import Derived.Test.YtbdbehdgpmfelaaXi
import Derived.Test.YtbdbehdgpmfelaaQc
import Derived.Test.YtbdbehdgpmfelaaQf
import Derived.Below
import Derived.BigQuiet
import Derived.BigRegion
import Derived.ChangeAlike
import Derived.ChangeKeysEq
import Derived.ChangeSame
import Derived.DataElems
import Derived.Deep.MidRow
import Derived.Deep.QuietTactic
import Derived.Deep.RegionHeld
import Derived.Deep.RegionHeld3
import Derived.Deep.RegionLaw
import Derived.Deep.RegionLawGrows
import Derived.Deep.RegionWith
import Derived.Deep.WholeRow
import Derived.Great.BuildSlice
import Derived.Handy
import Derived.Laws.AppendOwn
import Derived.Laws.AppendOwnNone
import Derived.Laws.BitsAllLaws
import Derived.Laws.BitsLemmas
import Derived.Laws.CopyOwn
import Derived.Laws.OwnMore
import Derived.Laws.Rows
import Derived.Laws.StructEq
import Derived.Laws.Tables
import Derived.Lib.BitFns
import Derived.Lib.SmallJoins
import Derived.OpenShut
import Derived.ProofKit
import Derived.RegionTactic
import Derived.WalkKit
import Derived.WalkLawsBesides
import Derived.WalkSmall
import Derived.WalkSpells
import Derived.WideShapes
import Derived.Test.YtbdbehdgpmfelaaXg
import Derived.Test.YtbdbehdgpmfelaaQd
import Derived.Test.YtbdbehdgpmfelaaProg
import Derived.Test.YtbdbehdgpmfelaaXe
namespace Go.Proofs.Ytbdbehdgpmfelaa
section
open Go Go.RowKit
set_option linter.unusedVariables false
set_option linter.unusedSimpArgs false

theorem allB_and (p q : Nat → Bool) : ∀ n, allB (fun k => p k && q k) n = (allB p n && allB q n)
  | 0 => rfl
  | n + 1 => by rw [allB_succ, allB_succ, allB_succ, allB_and p q n]; cases allB p n <;> cases allB q n <;> cases p n <;> cases q n <;> rfl

theorem allB_congr {p q : Nat → Bool} {n : Nat} (h : ∀ k, k < n → p k = q k) : allB p n = allB q n := by
  induction n with
  | zero => rfl
  | succ n ih => rw [allB_succ, allB_succ, ih (fun k hk => h k (by omega)), h n (by omega)]

theorem mapB_at {t : Nat → Q4} {p : Nat → Bool} (h : allB p 24 = true) (k : Nat) (hk : k < 24) : cq (mapB t p) k = t k := by
  rw [mapB_true h, mapK_all]
  exact cq_at (by simp [hk])

theorem meetC_rel (l m : List Q4) (v : List (Nat × Nat)) : (hasC l v && hasC m v) = (okC l m && hasC (meetC l m) v) := by
  unfold hasC okC
  rw [← allB_and]
  have e : ∀ k, (thz4 (cq l k) (wq v k) && thz4 (cq m k) (wq v k)) = (mok4 (cq l k) (cq m k) && thz4 (meet4 (cq l k) (cq m k)) (wq v k)) := fun k => meet_rel _ _ _ _ _ _ _ _ _ _
  rw [allB_congr (fun k _ => e k), allB_and]
  cases h : allB (fun k => mok4 (cq l k) (cq m k)) 24
  · rfl
  · rw [Bool.true_and, Bool.true_and]
    refine allB_congr (fun k hk => ?_)
    unfold meetC
    rw [mapB_at h k hk]

theorem z24q_isC : isC z24q := isC_of _ (by decide +kernel)

theorem isC_map (t : Nat → Q4) (h : ∀ k, k < 24 → (t k).1 < 18446744073709551616 ∧ (t k).2.1 < 18446744073709551616 ∧ (t k).2.2.1 < 18446744073709551616 ∧ (t k).2.2.2 < 18446744073709551616) : isC ((List.range 24).map t) := by
  refine ⟨by simp, fun p hp => ?_⟩
  obtain ⟨k, hk, rfl⟩ := List.mem_map.1 hp
  exact h k (List.mem_range.1 hk)

theorem cq_lt {l : List Q4} (hl : isC l) {k : Nat} (hk : k < 24) : (cq l k).1 < 18446744073709551616 ∧ (cq l k).2.1 < 18446744073709551616 ∧ (cq l k).2.2.1 < 18446744073709551616 ∧ (cq l k).2.2.2 < 18446744073709551616 := by
  obtain ⟨a, b, c, d, e, h1, h2, h3, h4⟩ := hl.get hk
  rw [cq_at e]; exact ⟨h1, h2, h3, h4⟩

theorem meetC_isC (l m : List Q4) (hl : isC l) (hm : isC m) : isC (meetC l m) := by
  unfold meetC mapB
  split
  · refine isC_map _ (fun k hk => ?_)
    obtain ⟨a1, a2, a3, a4⟩ := cq_lt hl hk
    obtain ⟨b1, b2, b3, b4⟩ := cq_lt hm hk
    exact ⟨mz_lt _ _ (or_lt _ _ (and_lt _ _ a1) (and_lt _ _ b1)), mz_lt _ _ (or_lt _ _ (and_lt _ _ a2) (and_lt _ _ b2)), mz_lt _ _ (or_lt _ _ a3 b3), mz_lt _ _ (or_lt _ _ a4 b4)⟩
  · exact z24q_isC
end

section
open Go Go.RowKit
set_option linter.unusedVariables false
set_option linter.unusedSimpArgs false

theorem tb_mok (a c a2 c2 : Nat) (h : (a ^^^ a2) &&& c2 = 0) : (a ^^^ a2) &&& (c &&& c2) = 0 := by
  rw [tb_zero] at h ⊢
  intro i
  have h := h i
  rw [Nat.testBit_and] at h ⊢
  rw [Nat.testBit_and]
  revert h
  cases (a ^^^ a2).testBit i <;> cases c.testBit i <;> cases c2.testBit i <;> simp

theorem tb_mask (c c2 : Nat) (hc : c < 18446744073709551616) (hc2 : c2 < 18446744073709551616) (h : andn c2 c = 0) : c ||| c2 = c := by
  rw [tb_sub c c2 hc hc2] at h
  apply Nat.eq_of_testBit_eq
  intro i
  have h := h i
  rw [Nat.testBit_or]
  revert h
  cases c.testBit i <;> cases c2.testBit i <;> simp

theorem tb_value (a c a2 c2 : Nat) (hc : c < 18446744073709551616) (hc2 : c2 < 18446744073709551616) (h : andn c2 c = 0) (k : (a ^^^ a2) &&& c2 = 0) : a &&& c ||| a2 &&& c2 = a &&& c := by
  rw [tb_sub c c2 hc hc2] at h
  rw [tb_has] at k
  apply Nat.eq_of_testBit_eq
  intro i
  have h := h i
  have k := k i
  rw [Nat.testBit_or, Nat.testBit_and, Nat.testBit_and]
  revert h k
  cases a.testBit i <;> cases a2.testBit i <;> cases c.testBit i <;> cases c2.testBit i <;> simp

theorem tb_part (c c2 : Nat) (hc : c < 18446744073709551616) (hc2 : c2 < 18446744073709551616) (h : andn c2 c = 0) : c &&& c2 = c2 := by
  rw [tb_sub c c2 hc hc2] at h
  apply Nat.eq_of_testBit_eq
  intro i
  have h := h i
  rw [Nat.testBit_and]
  revert h
  cases c.testBit i <;> cases c2.testBit i <;> simp

theorem pc_sub (c c2 : Nat) (hc : c < 18446744073709551616) (hc2 : c2 < 18446744073709551616) (h : andn c2 c = 0) : pc c2 ≤ pc c := by
  have e := pc_or_and (andn c c2) (c &&& c2) (tandn_lt _ _ hc) (and_lt _ _ hc)
  rw [less_and c c2 hc hc2, tb_part c c2 hc hc2 h] at e
  have z : andn c c2 &&& c2 = 0 := by
    rw [tb_zero]
    intro i
    rw [Nat.testBit_and, tb_andn c c2 hc2]
    cases c.testBit i <;> cases c2.testBit i <;> simp
  rw [z, pc_zero] at e
  omega

theorem within4 (q r : Q4) (h3 : q.2.2.1 < 18446744073709551616) (h4 : q.2.2.2 < 18446744073709551616) (k3 : r.2.2.1 < 18446744073709551616) (k4 : r.2.2.2 < 18446744073709551616) (h : twz4 q r = true) :
    mok4 q r = true ∧ meet4 q r = clean4 q ∧ pc r.2.2.1 + pc r.2.2.2 ≤ pc q.2.2.1 + pc q.2.2.2 := by
  obtain ⟨a, b, c, d⟩ := q
  obtain ⟨a2, b2, c2, d2⟩ := r
  simp only [twz4, twz, Bool.and_eq_true, beq_iff_eq] at h
  obtain ⟨⟨s1, s2⟩, s3, s4⟩ := h
  have hm : mok4 (a, b, c, d) (a2, b2, c2, d2) = true := by
    simp only [mok4, mok, Bool.and_eq_true, beq_iff_eq]
    exact ⟨tb_mok a c a2 c2 s3, tb_mok b d b2 d2 s4⟩
  refine ⟨hm, ?_, ?_⟩
  · unfold meet4 clean4
    rw [hm]
    simp only [mz]
    rw [tb_value a c a2 c2 h3 k3 s1 s3, tb_value b d b2 d2 h4 k4 s2 s4, tb_mask c c2 h3 k3 s1, tb_mask d d2 h4 k4 s2]
  · have := pc_sub c c2 h3 k3 s1
    have := pc_sub d d2 h4 k4 s2
    dsimp only
    omega

theorem allB_at {p : Nat → Bool} {n k : Nat} (h : allB p n = true) (hk : k < n) : p k = true := by
  unfold allB at h
  rw [List.all_eq_true] at h
  exact h k (List.mem_range.2 hk)

theorem allB_intro {p : Nat → Bool} {n : Nat} (h : ∀ k, k < n → p k = true) : allB p n = true := by
  unfold allB
  rw [List.all_eq_true]
  exact fun k hk => h k (List.mem_range.1 hk)

theorem withinC (l m : List Q4) (v : List (Nat × Nat)) (hl : isC l) (hm : isC m) (h : inC l m = true) :
    okC l m = true ∧ meetC l m = cleanC l ∧ (hasC l v = true → hasC m v = true) ∧ ∀ k, k ≤ 24 → sizeK m k ≤ sizeK l k := by
  have w4 := fun k (hk : k < 24) => within4 (cq l k) (cq m k) (cq_lt hl hk).2.2.1 (cq_lt hl hk).2.2.2 (cq_lt hm hk).2.2.1 (cq_lt hm hk).2.2.2 (allB_at (p := fun k => twz4 (cq l k) (cq m k)) h hk)
  have ok : okC l m = true := allB_intro (fun k hk => (w4 k hk).1)
  refine ⟨ok, ?_, ?_, ?_⟩
  · unfold meetC
    rw [mapB_true ok, mapK_all]
    unfold cleanC
    apply List.map_congr_left
    intro k hk
    exact (w4 k (List.mem_range.1 hk)).2.1
  · intro hh
    refine allB_intro (fun k hk => ?_)
    exact within_sub _ _ _ _ _ _ _ _ _ _ (cq_lt hl hk).2.2.1 (cq_lt hl hk).2.2.2 (cq_lt hm hk).2.2.1 (cq_lt hm hk).2.2.2 (allB_at (p := fun k => twz4 (cq l k) (cq m k)) h hk) (allB_at (p := fun k => thz4 (cq l k) (wq v k)) hh hk)
  · intro k
    induction k with
    | zero => intro _; exact Nat.le_refl _
    | succ k ih =>
      intro hk
      have := ih (by omega)
      have := (w4 k (by omega)).2.2
      rw [sizeK, sizeK]
      omega
end

section
open Go Go.RowKit
set_option linter.unusedVariables false
set_option linter.unusedSimpArgs false
open Go Go.RowKit Go.ChangeShapes Go.WideShapes

theorem open_cube {H : Type} {enc : TypeId × Value → H} {W : World} {r : Reach} {b0 base : Nat} {spare : Nat → Bool} {held : Bool} {v : Value} {d : DataW H} {p : List MemPlace}
    (hv' : Value.okWide Try.prog W r b0 28 v) (h : DataW.Trod enc Try.prog W base spare held 28 v d p) : ∃ l, v = cv l ∧ isC l := by
  obtain ⟨cs, rfl, hsz⟩ := okWide_arr Try.underlying28 hv'
  have h44 : Try.prog.cellsOf 28 = 96 := by kernel_rfl
  have h26 : Try.prog.cellsOf 26 = 4 := by kernel_rfl
  obtain ⟨fuel, hf⟩ := h
  obtain ⟨xs, m, _, _, hl, hxl, hx⟩ := DataW.trod_array Try.underlying28 hf
  obtain ⟨l, h1, h2, h3⟩ := quads_list 24 cs.toList (by simp [hsz, h44]) (fun i hi => by
    have e := hx i hi
    rw [h26, List.getElem?_eq_getElem (by omega)] at e
    exact quad_of e)
  refine ⟨l, ?_, h1, h3⟩
  unfold cv
  rw [← h2]
end

end Go.Proofs.Ytbdbehdgpmfelaa
