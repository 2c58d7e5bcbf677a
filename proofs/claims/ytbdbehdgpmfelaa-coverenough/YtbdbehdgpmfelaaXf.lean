import Derived.Test.YtbdbehdgpmfelaaXb
import Derived.Test.YtbdbehdgpmfelaaXd
import Derived.Below
import Derived.BigQuiet
import Derived.BigRegion
import Derived.ChangeAlike
import Derived.ChangeKeysEq
import Derived.ChangeSame
import Derived.DataElems
import Derived.Deep.MidRow
import Derived.Deep.QuietTactic
import Derived.Deep.RegionHeld
import Derived.Deep.RegionHeld3
import Derived.Deep.RegionLaw
import Derived.Deep.RegionLawGrows
import Derived.Deep.RegionWith
import Derived.Deep.WholeRow
import Derived.Great.BuildSlice
import Derived.Handy
import Derived.Laws.AppendOwn
import Derived.Laws.AppendOwnNone
import Derived.Laws.BitsAllLaws
import Derived.Laws.BitsLemmas
import Derived.Laws.CopyOwn
import Derived.Laws.OwnMore
import Derived.Laws.Rows
import Derived.Laws.StructEq
import Derived.Laws.Tables
import Derived.Lib.BitFns
import Derived.Lib.SmallJoins
import Derived.OpenShut
import Derived.ProofKit
import Derived.RegionTactic
import Derived.WalkKit
import Derived.WalkLawsBesides
import Derived.WalkSmall
import Derived.WalkSpells
import Derived.WideShapes
import Derived.Test.YtbdbehdgpmfelaaXa
import Derived.Test.YtbdbehdgpmfelaaProg
import Derived.Test.YtbdbehdgpmfelaaXe
namespace Go.Proofs.Ytbdbehdgpmfelaa
section
open Go Go.RowKit
set_option linter.unusedVariables false
set_option linter.unusedSimpArgs false

/-- bits that count, bit by bit -/
theorem tb_zero (x : Nat) : x = 0 ↔ ∀ i, x.testBit i = false := by
  constructor
  · rintro rfl i; simp
  · intro h; exact Nat.eq_of_testBit_eq (fun i => by rw [h i]; simp)

theorem tb_has (v m x : Nat) : ((v ^^^ x) &&& m = 0) ↔ ∀ i, m.testBit i = true → v.testBit i = x.testBit i := by
  rw [tb_zero]
  refine forall_congr' fun i => ?_
  rw [Nat.testBit_and, Nat.testBit_xor]
  cases m.testBit i <;> cases v.testBit i <;> cases x.testBit i <;> simp

theorem tb_meet (av am bv bm x : Nat) : (((av ^^^ x) &&& am = 0) ∧ ((bv ^^^ x) &&& bm = 0)) ↔ (((av ^^^ bv) &&& (am &&& bm) = 0) ∧ (((av &&& am ||| bv &&& bm) ^^^ x) &&& (am ||| bm) = 0)) := by
  simp only [tb_zero, ← forall_and]
  refine forall_congr' fun i => ?_
  simp only [Nat.testBit_and, Nat.testBit_xor, Nat.testBit_or]
  cases am.testBit i <;> cases av.testBit i <;> cases bm.testBit i <;> cases bv.testBit i <;> cases x.testBit i <;> simp

theorem tb_andn (a c : Nat) (hc : c < 18446744073709551616) (i : Nat) : (andn a c).testBit i = (a.testBit i && (decide (i < 64) && !c.testBit i)) := by
  unfold andn
  rw [Nat.testBit_and]
  have e : 18446744073709551615 - c = 2 ^ 64 - (c + 1) := by
    have : (2 : Nat) ^ 64 = 18446744073709551616 := by decide
    omega
  rw [e, Nat.testBit_two_pow_sub_succ (by have : (2 : Nat) ^ 64 = 18446744073709551616 := by decide
                                          omega)]

theorem tb_high (a i : Nat) (ha : a < 18446744073709551616) (hi : 64 ≤ i) : a.testBit i = false := by
  apply Nat.testBit_lt_two_pow
  have : (2 : Nat) ^ 64 ≤ 2 ^ i := Nat.pow_le_pow_right (by decide) hi
  have e : (2 : Nat) ^ 64 = 18446744073709551616 := by decide
  omega

/-- all that counts in b counts in a -/
theorem tb_sub (am bm : Nat) (ha : am < 18446744073709551616) (hb : bm < 18446744073709551616) : andn bm am = 0 ↔ ∀ i, bm.testBit i = true → am.testBit i = true := by
  rw [tb_zero]
  refine forall_congr' fun i => ?_
  rw [tb_andn bm am ha]
  by_cases hi : i < 64
  · cases bm.testBit i <;> cases am.testBit i <;> simp [hi]
  · rw [tb_high bm i hb (by omega)]; simp

theorem tb_within (av am bv bm x : Nat) (ha : am < 18446744073709551616) (hb : bm < 18446744073709551616) (h1 : andn bm am = 0) (h2 : (av ^^^ bv) &&& bm = 0) (hx : (av ^^^ x) &&& am = 0) : (bv ^^^ x) &&& bm = 0 := by
  rw [tb_sub am bm ha hb] at h1
  rw [tb_has] at h2 hx ⊢
  intro i hi
  rw [← h2 i hi]
  exact hx i (h1 i hi)

theorem tb_on (v m x y : Nat) (hv : v < 18446744073709551616) (hm : m < 18446744073709551616) (hx : x < 18446744073709551616) (hy : y < 18446744073709551616) :
    (((andn (v &&& m) x ||| x) ^^^ y) &&& (m ||| x) = 0) ↔ (andn x y = 0 ∧ (v ^^^ y) &&& andn m x = 0) := by
  simp only [tb_zero, ← forall_and]
  refine forall_congr' fun i => ?_
  simp only [Nat.testBit_and, Nat.testBit_xor, Nat.testBit_or, tb_andn _ x hx, tb_andn _ y hy]
  by_cases hi : i < 64
  · cases v.testBit i <;> cases m.testBit i <;> cases x.testBit i <;> cases y.testBit i <;> simp [hi]
  · rw [tb_high v i hv (by omega), tb_high m i hm (by omega), tb_high x i hx (by omega), tb_high y i hy (by omega)]; simp

theorem tb_off (v m x y : Nat) (hv : v < 18446744073709551616) (hm : m < 18446744073709551616) (hx : x < 18446744073709551616) (hy : y < 18446744073709551616) :
    (((andn (v &&& m) x) ^^^ y) &&& (m ||| x) = 0) ↔ (y &&& x = 0 ∧ (v ^^^ y) &&& andn m x = 0) := by
  simp only [tb_zero, ← forall_and]
  refine forall_congr' fun i => ?_
  simp only [Nat.testBit_and, Nat.testBit_xor, Nat.testBit_or, tb_andn _ x hx, tb_andn _ y hy]
  by_cases hi : i < 64
  · cases v.testBit i <;> cases m.testBit i <;> cases x.testBit i <;> cases y.testBit i <;> simp [hi]
  · rw [tb_high v i hv (by omega), tb_high m i hm (by omega), tb_high x i hx (by omega), tb_high y i hy (by omega)]; simp

theorem tb_free (m x : Nat) (hm : m < 18446744073709551616) (hx : x < 18446744073709551616) (h : m &&& x = 0) : andn m x = m := by
  apply Nat.eq_of_testBit_eq
  intro i
  have h := (tb_zero _).1 h i
  rw [Nat.testBit_and] at h
  rw [tb_andn m x hx]
  by_cases hi : i < 64
  · revert h; cases m.testBit i <;> cases x.testBit i <;> simp [hi]
  · rw [tb_high m i hm (by omega)]; simp
end

section
open Go Go.RowKit
set_option linter.unusedVariables false
set_option linter.unusedSimpArgs false

theorem bitLen_spec : ∀ (n x : Nat), x < 2 ^ n → n ≤ 64 → x ≠ 0 → 0 < Lib.bitLen x ∧ Lib.bitLen x ≤ 64 ∧ 2 ^ (Lib.bitLen x - 1) ≤ x ∧ x < 2 ^ Lib.bitLen x
  | 0, x, h, _, h0 => by simp at h; exact absurd h h0
  | n + 1, x, h, hn, h0 => by
    have h64 : x < 2 ^ 64 := Nat.lt_of_lt_of_le h (Nat.pow_le_pow_right (by decide) hn)
    have e := Lib.bitLen_half x h0 h64
    have hle := Lib.bitLen_le x 64 (by decide) h64
    by_cases hx : x / 2 = 0
    · have h1 : x = 1 := by omega
      subst h1
      have : Lib.bitLen 1 = 1 := by decide
      rw [this]; decide
    · obtain ⟨a, b, c, d⟩ := bitLen_spec n (x / 2) (by rw [Nat.pow_succ] at h; omega) (by omega) hx
      rw [e] at hle ⊢
      generalize Lib.bitLen (x / 2) = m at *
      refine ⟨by omega, hle, ?_, ?_⟩
      · have : 1 + m - 1 = (m - 1) + 1 := by omega
        rw [this, Nat.pow_succ]; omega
      · rw [Nat.add_comm, Nat.pow_succ]; omega

theorem bitLen_top (x : Nat) (h : x < 18446744073709551616) (h0 : x ≠ 0) : 0 < Lib.bitLen x ∧ Lib.bitLen x ≤ 64 ∧ x.testBit (Lib.bitLen x - 1) = true ∧ ∀ j, Lib.bitLen x ≤ j → x.testBit j = false := by
  obtain ⟨a, b, c, d⟩ := bitLen_spec 64 x h (by decide) h0
  refine ⟨a, b, ?_, fun j hj => Nat.testBit_lt_two_pow (Nat.lt_of_lt_of_le d (Nat.pow_le_pow_right (by decide) hj))⟩
  generalize hm : Lib.bitLen x = m at *
  obtain ⟨k, rfl⟩ : ∃ k, m = k + 1 := ⟨m - 1, by omega⟩
  rw [Nat.add_sub_cancel] at c ⊢
  rw [Nat.testBit_eq_decide_div_mod_eq]
  rw [Nat.pow_succ] at d
  have hp : 0 < 2 ^ k := Nat.pow_pos (by decide)
  have h1 : x / 2 ^ k = 1 := by
    have l1 : 1 ≤ x / 2 ^ k := (Nat.le_div_iff_mul_le hp).2 (by omega)
    have l2 : x / 2 ^ k < 2 := (Nat.div_lt_iff_lt_mul hp).2 (by omega)
    omega
  rw [h1]; rfl

/-- the places below k that p has, falling -/
def fall (p : Nat → Bool) : Nat → List Nat
  | 0 => []
  | k + 1 => if p k then k :: fall p k else fall p k

theorem fall_congr {p q : Nat → Bool} : ∀ {k : Nat}, (∀ i, i < k → p i = q i) → fall p k = fall q k
  | 0, _ => rfl
  | k + 1, h => by
    rw [fall, fall, h k (Nat.lt_succ_self k), fall_congr (k := k) (fun i hi => h i (by omega))]

theorem fall_none {p : Nat → Bool} : ∀ {k : Nat}, (∀ i, i < k → p i = false) → fall p k = []
  | 0, _ => rfl
  | k + 1, h => by
    rw [fall, h k (Nat.lt_succ_self k), if_neg (by decide)]
    exact fall_none (k := k) (fun i hi => h i (by omega))

theorem fall_above {p : Nat → Bool} {t : Nat} : ∀ (d : Nat), (∀ j, t ≤ j → j < t + d → p j = false) → fall p (t + d) = fall p t
  | 0, _ => rfl
  | d + 1, h => by
    show fall p ((t + d) + 1) = _
    rw [fall, h (t + d) (by omega) (by omega), if_neg (by decide)]
    exact fall_above d (fun j h1 h2 => h j h1 (by omega))

theorem fall_top {p q : Nat → Bool} {t k : Nat} (ht : t < k) (hp : p t = true) (ha : ∀ j, t < j → j < k → p j = false) (hq : ∀ i, i < k → q i = (p i && decide (i ≠ t))) : fall p k = t :: fall q k := by
  obtain ⟨d, rfl⟩ : ∃ d, k = (t + 1) + d := ⟨k - (t + 1), by omega⟩
  rw [fall_above d (fun j h1 h2 => ha j (by omega) h2), fall, if_pos hp]
  congr 1
  have e1 : fall q (t + 1 + d) = fall q t := by
    have : t + 1 + d = t + (d + 1) := by omega
    rw [this]
    refine fall_above (d + 1) (fun j h1 h2 => ?_)
    rw [hq j (by omega)]
    by_cases e : j = t
    · subst e; simp
    · rw [ha j (by omega) (by omega)]; simp
  rw [e1]
  refine fall_congr (fun i hi => ?_)
  rw [hq i (by omega)]
  have : i ≠ t := by omega
  simp [this]

theorem fall_len (p : Nat → Bool) : ∀ k, (fall p k).length ≤ k
  | 0 => Nat.le_refl _
  | k + 1 => by
    rw [fall]
    have := fall_len p k
    split
    · simp; omega
    · omega

theorem fall_mem (p : Nat → Bool) : ∀ k x, x ∈ fall p k ↔ x < k ∧ p x = true
  | 0, x => by simp [fall]
  | k + 1, x => by
    rw [fall]
    have := fall_mem p k x
    split
    · rename_i h
      rw [List.mem_cons, this]
      constructor
      · rintro (rfl | ⟨h1, h2⟩)
        · exact ⟨by omega, h⟩
        · exact ⟨by omega, h2⟩
      · rintro ⟨h1, h2⟩
        by_cases e : x = k
        · exact Or.inl e
        · exact Or.inr ⟨by omega, h2⟩
    · rename_i h
      rw [this]
      constructor
      · rintro ⟨h1, h2⟩; exact ⟨by omega, h2⟩
      · rintro ⟨h1, h2⟩
        refine ⟨?_, h2⟩
        by_cases e : x = k
        · subst e; exact absurd h2 h
        · omega

/-- the place of the highest bit -/
def top (a b : Nat) : Nat := if a = 0 then Lib.bitLen b - 1 else 64 + Lib.bitLen a - 1

theorem bit_hasb (t i : Nat) (ht : t < 128) (hi : i < 128) : hasb (bh t) (bl t) i = decide (i = t) := by
  unfold hasb bh bl
  by_cases h1 : i < 64 <;> by_cases h2 : t < 64 <;> simp [h1, h2, Nat.testBit_two_pow]
  all_goals omega

theorem less_hasb (a b c d i : Nat) (hc : c < 18446744073709551616) (hd : d < 18446744073709551616) (hi : i < 128) : hasb (andn a c) (andn b d) i = (hasb a b i && !hasb c d i) := by
  unfold hasb
  by_cases h1 : i < 64
  · rw [if_pos h1, if_pos h1, if_pos h1, tb_andn b d hd]; simp [h1]
  · rw [if_neg h1, if_neg h1, if_neg h1, tb_andn a c hc]
    have : i - 64 < 64 := by omega
    simp [this]

theorem zero_hasb {a b : Nat} (h : (a == 0 && b == 0) = true) (i : Nat) : hasb a b i = false := by
  simp at h
  obtain ⟨rfl, rfl⟩ := h
  unfold hasb; split <;> simp

theorem top_spec (a b : Nat) (ha : a < 18446744073709551616) (hb : b < 18446744073709551616) (h : (a == 0 && b == 0) = false) : top a b < 128 ∧ hasb a b (top a b) = true ∧ ∀ j, top a b < j → j < 128 → hasb a b j = false := by
  unfold top
  by_cases h0 : a = 0
  · subst h0
    have hb0 : b ≠ 0 := by rintro rfl; simp at h
    obtain ⟨p, q, r, s⟩ := bitLen_top b hb hb0
    rw [if_pos rfl]
    refine ⟨by omega, ?_, fun j h1 h2 => ?_⟩
    · rw [hasb_lo _ _ _ (by omega)]; exact r
    · by_cases h3 : j < 64
      · rw [hasb_lo _ _ _ h3]; exact s j (by omega)
      · rw [hasb_hi _ _ _ h3]; simp
  · obtain ⟨p, q, r, s⟩ := bitLen_top a ha h0
    rw [if_neg h0]
    refine ⟨by omega, ?_, fun j h1 h2 => ?_⟩
    · rw [hasb_hi _ _ _ (by omega), show 64 + Lib.bitLen a - 1 - 64 = Lib.bitLen a - 1 by omega]; exact r
    · rw [hasb_hi _ _ _ (by omega)]; exact s _ (by omega)

theorem fall_round (a b : Nat) (ha : a < 18446744073709551616) (hb : b < 18446744073709551616) (h : (a == 0 && b == 0) = false) :
    fall (hasb a b) 128 = top a b :: fall (hasb (andn a (bh (top a b))) (andn b (bl (top a b)))) 128 := by
  obtain ⟨h1, h2, h3⟩ := top_spec a b ha hb h
  refine fall_top h1 h2 h3 (fun i hi => ?_)
  rw [less_hasb _ _ _ _ _ (bh_lt _ h1) (bl_lt _) hi, bit_hasb _ _ h1 hi]
  simp
end

section
open Go Go.RowKit
set_option linter.unusedVariables false
set_option linter.unusedSimpArgs false

/-- a block of the call's own holds these cells, whatever its type -/
def AB (w : World) (g : Nat) (ty : TypeId) (cs : List Value) : Prop := w.heap[g]? = some (.cells cs.toArray ty)

theorem AB.lt {w : World} {g : Nat} {ty : TypeId} {cs : List Value} (h : AB w g ty cs) : g < w.heap.size := (Array.getElem?_eq_some_iff.1 h).1

theorem AB.below {w w' : World} {g B : Nat} {ty : TypeId} {cs : List Value} (h : AB w g ty cs) (hb : Below B w w') (hg : g < B) : AB w' g ty cs := by
  unfold AB at *; rw [hb.block g hg]; exact h

theorem AB.later {w w' : World} {g : Nat} {ty : TypeId} {cs : List Value} (h : AB w g ty cs) (hb : Below w.heap.size w w') : AB w' g ty cs := h.below hb h.lt

theorem AB.new (w : World) (ty : TypeId) (cs : List Value) : AB (w.alloc (.cells cs.toArray ty)) w.heap.size ty cs := heap_alloc_last w _

theorem AB.alloc {w : World} {g : Nat} {ty : TypeId} {cs : List Value} (h : AB w g ty cs) (o : Obj) : AB (w.alloc o) g ty cs := h.later ((Below.refl _ _).alloc (Nat.le_refl _) _)

theorem AB.range {w : World} {g : Nat} {ty : TypeId} {cs : List Value} (h : AB w g ty cs) : w.rangeAt g 0 cs := by
  intro j v hv
  rw [cell_of_row w g (0 + j) _ ty _ h, Nat.zero_add]
  simpa using hv

theorem AB.cell {w : World} {g j : Nat} {ty : TypeId} {cs : List Value} {v : Value} (h : AB w g ty cs) (hj : cs[j]? = some v) : w.cell? ⟨g, j, none⟩ = some v ∧ w.frozen? ⟨g, j, none⟩ = false := by
  refine ⟨?_, ?_⟩
  · rw [cell_of_row w g j _ ty _ h]; simpa using hj
  · unfold AB at h; simp [World.frozen?, h]

theorem AB.set {w : World} {g j : Nat} {ty : TypeId} {cs : List Value} (h : AB w g ty cs) (v : Value) : AB (w.setCell ⟨g, j, none⟩ v) g ty (cs.set j v) := by
  unfold AB at *
  rw [heap_setCell_same w g j _ ty v h]
  simp

theorem AB.far {w : World} {g f o : Nat} {ty : TypeId} {cs : List Value} (h : AB w g ty cs) (u : Value) (hne : g ≠ f) : AB (w.setCell ⟨f, o, none⟩ u) g ty cs := by
  unfold AB at *
  rw [Go.heap_setCell_other w ⟨f, o, none⟩ g u hne]; exact h

theorem AB.row {w : World} {g : Nat} {ty : TypeId} {cs cs' : List Value} (h : AB w g ty cs) : AB (w.setRow g cs'.toArray) g ty cs' := setRow_heap w g _ _ ty _ h

theorem AB.row_far {w : World} {g f : Nat} {ty : TypeId} {cs : List Value} (h : AB w g ty cs) (ds : Array Value) (hne : g ≠ f) : AB (w.setRow f ds) g ty cs := by
  unfold AB at *
  rw [Go.setRow_other w f g ds hne]; exact h

theorem below_row (w : World) (g B : Nat) (cs : Array Value) (hB : B ≤ g) : Below B w (w.setRow g cs) := by
  refine ⟨rfl, rfl, rfl, by simp, fun k hk => ?_⟩
  rw [Go.setRow_other w g k cs (by omega)]

/-- an array is loaded whole, guarded or not -/
theorem wpList_loadA {P : Program} {ty e : TypeId} {n : Nat} (hu : P.underlying ty = some (.array n e)) {ops : Array Oper} {rest : List Oper} {o : Oper} {a : Act} {w : World} {Q : Exit → Act → World → Prop} (hw : Region.wanted o (yielded ops a.tmps) = true) (x : Operand) (ho : o.op = .load ty x)
    (g : Nat) (hx : a.eval x = .pointer (some ⟨g, 0, none⟩)) (cs : List Value) (hi : (P.info? ty).map (·.size) = some cs.length) (h0 : AB w g ty cs)
    (h : wpList P ops Q rest (a.put o.dst (.agg cs.toArray)) w) : wpList P ops Q (o :: rest) a w :=
  wpList_wanted hw fun K hK => wp_load_row ty x ho g hx ty cs.toArray (0, 0) _ h0 hu rfl (by simpa using hi) (hK _ _ h)

/-- an array is stored whole, guarded or not; the world behind is told -/
theorem wpList_storeA {P : Program} {ty : TypeId} {ops : Array Oper} {rest : List Oper} {o : Oper} {a : Act} {w : World} {Q : Exit → Act → World → Prop} (hw : Region.wanted o (yielded ops a.tmps) = true) (x y : Operand) (ho : o.op = .store ty x y)
    (g : Nat) (hx : a.eval x = .pointer (some ⟨g, 0, none⟩)) (cs0 cs : List Value) (hl : cs0.length = cs.length) (hi : (P.info? ty).map (·.size) = some cs.length) (h1 : ∀ v ∈ cs, v.oneCell' = true) (hy : a.eval y = .agg cs.toArray) (h0 : AB w g ty cs0)
    (h : wpList P ops Q rest (a.put o.dst undef) (w.setRow g cs.toArray)) : wpList P ops Q (o :: rest) a w :=
  wpList_wanted hw fun K hK => wp_store_row ty x y ho g cs.toArray hx hy ty cs0.toArray h0 (by simpa using hi) (by simpa using hl) (all_oneCell_toArray h1) (hK _ _ h)

theorem results_A {P : Program} {ty e : TypeId} {n : Nat} (hu : P.underlying ty = some (.array n e)) {fn : Func} {p : Tmp} (h : fn.results = #[.cell p ty]) (tmps : Array Value) (w : World) (g : Nat) (cs : List Value) (hi : (P.info? ty).map (·.size) = some cs.length) (hp : tmps.getD p undef = .pointer (some ⟨g, 0, none⟩)) (hg : AB w g ty cs) :
    (results fn tmps).run P w = .ok (.agg cs.toArray) w :=
  results_cell_row h tmps w g ty cs.toArray (0, 0) _ hp hg hu rfl (by simpa using hi)

theorem results_A2 {P : Program} {ty e : TypeId} {n : Nat} (hu : P.underlying ty = some (.array n e)) {fn : Func} {p q : Tmp} (h : fn.results = #[.cell p ty, .tmp q]) (tmps : Array Value) (w : World) (g : Nat) (cs : List Value) (v : Value) (hi : (P.info? ty).map (·.size) = some cs.length) (hp : tmps.getD p undef = .pointer (some ⟨g, 0, none⟩)) (hq : tmps.getD q undef = v) (hg : AB w g ty cs) :
    (results fn tmps).run P w = .ok (.tuple #[.agg cs.toArray, v]) w := by
  have hp' : tmps[p]?.getD undef = .pointer (some ⟨g, 0, none⟩) := by simpa using hp
  have hq' : tmps[q]?.getD undef = v := by simpa using hq
  have := run_loadVar_row (P := P) w g ty ty cs.toArray (0, 0) _ hg hu rfl (by simpa using hi)
  simp [results, h, hp', hq', asAddr, this]

/-- cells of terns: four halves each -/
abbrev Q4 := Nat × Nat × Nat × Nat

def tdc : List Q4 → List Value
  | [] => []
  | p :: r => .int .u64 (p.1 : Int) :: .int .u64 (p.2.1 : Int) :: .int .u64 (p.2.2.1 : Int) :: .int .u64 (p.2.2.2 : Int) :: tdc r

theorem tdc_length : ∀ l, (tdc l).length = l.length * 4
  | [] => rfl
  | p :: r => by simp [tdc, tdc_length r]; omega

theorem tdc_one (l : List Q4) : ∀ u ∈ tdc l, u.oneCell' = true := by
  induction l with
  | nil => intro u hu; cases hu
  | cons p r ih =>
    intro u hu
    simp only [tdc, List.mem_cons] at hu
    rcases hu with rfl | rfl | rfl | rfl | hu
    · rfl
    · rfl
    · rfl
    · rfl
    · exact ih u hu

theorem tdc_drop : ∀ (l : List Q4) (j : Nat), (tdc l).drop (j * 4) = tdc (l.drop j)
  | l, 0 => by simp
  | [], j + 1 => by simp [tdc]
  | p :: l, j + 1 => by
    rw [show (j + 1) * 4 = j * 4 + 1 + 1 + 1 + 1 by omega]
    simp only [tdc, List.drop_succ_cons]
    exact tdc_drop l j

theorem tdc_at (l : List Q4) (j : Nat) (p : Q4) (h : l[j]? = some p) : (tdc l)[j * 4]? = some (.int .u64 (p.1 : Int)) ∧ (tdc l)[j * 4 + 1]? = some (.int .u64 (p.2.1 : Int)) ∧ (tdc l)[j * 4 + 2]? = some (.int .u64 (p.2.2.1 : Int)) ∧ (tdc l)[j * 4 + 3]? = some (.int .u64 (p.2.2.2 : Int)) := by
  have hj : j < l.length := (List.getElem?_eq_some_iff.1 h).1
  have e : l[j] = p := (List.getElem?_eq_some_iff.1 h).2
  have hd := tdc_drop l j
  rw [List.drop_eq_getElem_cons hj, e] at hd
  have k : ∀ i, (tdc l)[j * 4 + i]? = (tdc (p :: l.drop (j + 1)))[i]? := fun i => by rw [← hd, List.getElem?_drop]
  exact ⟨by simpa [tdc] using k 0, by simpa [tdc] using k 1, by simpa [tdc] using k 2, by simpa [tdc] using k 3⟩

theorem tdc_set : ∀ (l : List Q4) (j a b c d : Nat), ((((tdc l).set (j * 4) (.int .u64 (a : Int))).set (j * 4 + 1) (.int .u64 (b : Int))).set (j * 4 + 2) (.int .u64 (c : Int))).set (j * 4 + 3) (.int .u64 (d : Int)) = tdc (l.set j (a, b, c, d))
  | [], j, a, b, c, d => by simp [tdc]
  | p :: l, 0, a, b, c, d => by simp [tdc]
  | p :: l, j + 1, a, b, c, d => by
    have := tdc_set l j a b c d
    rw [show (j + 1) * 4 = j * 4 + 1 + 1 + 1 + 1 by omega]
    simp only [tdc, List.set_cons_succ, this]

theorem ext4 (l : List Q4) (j : Nat) (p : Q4) (h : l[j]? = some p) : (tdc l).toArray.extract (j * 4) (j * 4 + 4) = #[.int .u64 (p.1 : Int), .int .u64 (p.2.1 : Int), .int .u64 (p.2.2.1 : Int), .int .u64 (p.2.2.2 : Int)] := by
  have hj : j < l.length := (List.getElem?_eq_some_iff.1 h).1
  have e : l[j] = p := (List.getElem?_eq_some_iff.1 h).2
  rw [List.extract_toArray, List.extract_eq_take_drop, tdc_drop, List.drop_eq_getElem_cons hj, e]
  have e2 : j * 4 + 4 - j * 4 = 4 := by omega
  rw [e2]
  simp [tdc]

theorem quads_list : ∀ (n : Nat) (cs : List Value), cs.length = n * 4 → (∀ i, i < n → ∃ a b c d : Nat, (cs.drop (i * 4)).take 4 = [.int .u64 (a : Int), .int .u64 (b : Int), .int .u64 (c : Int), .int .u64 (d : Int)] ∧ a < 18446744073709551616 ∧ b < 18446744073709551616 ∧ c < 18446744073709551616 ∧ d < 18446744073709551616) →
    ∃ l : List Q4, l.length = n ∧ cs = tdc l ∧ ∀ p ∈ l, p.1 < 18446744073709551616 ∧ p.2.1 < 18446744073709551616 ∧ p.2.2.1 < 18446744073709551616 ∧ p.2.2.2 < 18446744073709551616
  | 0, cs, hl, _ => by
    have : cs = [] := List.eq_nil_of_length_eq_zero (by omega)
    subst this
    exact ⟨[], rfl, rfl, fun p hp => by cases hp⟩
  | n + 1, cs, hl, h => by
    match cs, hl with
    | [], hl => simp at hl
    | [_], hl => simp at hl; omega
    | [_, _], hl => simp at hl; omega
    | [_, _, _], hl => simp at hl; omega
    | c0 :: c1 :: c2 :: c3 :: r, hl =>
      obtain ⟨a, b, c, d, e, ha, hb, hc, hd⟩ := h 0 (by omega)
      simp at e
      obtain ⟨rfl, rfl, rfl, rfl⟩ := e
      obtain ⟨l, h1, h2, h3⟩ := quads_list n r (by simp at hl; omega) (fun i hi => by
        have := h (i + 1) (by omega)
        rw [show (i + 1) * 4 = i * 4 + 1 + 1 + 1 + 1 by omega] at this
        simpa using this)
      subst h2
      refine ⟨(a, b, c, d) :: l, by simp [h1], rfl, fun p hp => ?_⟩
      rcases List.mem_cons.1 hp with rfl | hp
      · exact ⟨ha, hb, hc, hd⟩
      · exact h3 p hp
end

section
open Go Go.RowKit
set_option linter.unusedVariables false
set_option linter.unusedSimpArgs false

/-- a tern: four halves -/
def td (a b c d : Nat) : Value := .agg #[.int .u64 (a : Int), .int .u64 (b : Int), .int .u64 (c : Int), .int .u64 (d : Int)]

theorem AB.four {w : World} {g : Nat} {ty : TypeId} {a b c d : Value} (h : AB w g ty [a, b, c, d]) : w.cell? ⟨g, 0, none⟩ = some a ∧ w.cell? ⟨g, 1, none⟩ = some b ∧ w.cell? ⟨g, 2, none⟩ = some c ∧ w.cell? ⟨g, 3, none⟩ = some d ∧ w.frozen? ⟨g, 0, none⟩ = false ∧ w.frozen? ⟨g, 1, none⟩ = false ∧ w.frozen? ⟨g, 2, none⟩ = false ∧ w.frozen? ⟨g, 3, none⟩ = false :=
  ⟨(h.cell (j := 0) rfl).1, (h.cell (j := 1) rfl).1, (h.cell (j := 2) rfl).1, (h.cell (j := 3) rfl).1, (h.cell (j := 0) rfl).2, (h.cell (j := 1) rfl).2, (h.cell (j := 2) rfl).2, (h.cell (j := 3) rfl).2⟩

theorem AB.two {w : World} {g : Nat} {ty : TypeId} {a b : Value} (h : AB w g ty [a, b]) : w.cell? ⟨g, 0, none⟩ = some a ∧ w.cell? ⟨g, 1, none⟩ = some b ∧ w.frozen? ⟨g, 0, none⟩ = false ∧ w.frozen? ⟨g, 1, none⟩ = false :=
  ⟨(h.cell (j := 0) rfl).1, (h.cell (j := 1) rfl).1, (h.cell (j := 0) rfl).2, (h.cell (j := 1) rfl).2⟩

/-- a block that was laid stays, as it was, where more is laid -/
theorem AB.at0 (w : World) (t : TypeId) (cs : List Value) : AB (w.alloc (.cells cs.toArray t)) w.heap.size t cs := AB.new w t cs

theorem AB.at1 (w : World) (o : Obj) (t : TypeId) (cs : List Value) : AB ((w.alloc o).alloc (.cells cs.toArray t)) (w.heap.size + 1) t cs := by
  have := AB.new (w.alloc o) t cs
  simpa using this

theorem AB.at2 (w : World) (o o' : Obj) (t : TypeId) (cs : List Value) : AB (((w.alloc o).alloc o').alloc (.cells cs.toArray t)) (w.heap.size + 1 + 1) t cs := by
  have := AB.new ((w.alloc o).alloc o') t cs
  simpa using this

theorem below1 (w : World) (o : Obj) : Below w.heap.size w (w.alloc o) := (Below.refl _ _).alloc (Nat.le_refl _) _

theorem below2 (w : World) (o o' : Obj) : Below w.heap.size w ((w.alloc o).alloc o') := (below1 w o).alloc (by simp) _

theorem below3 (w : World) (o o' o'' : Obj) : Below w.heap.size w (((w.alloc o).alloc o').alloc o'') := (below2 w o o').alloc (by simp; omega) _

theorem keepH {g f : Nat} {i0 i1 i2 i3 j0 j1 : Nat} {w0 wa wb : World} {x0 x1 x2 x3 y0 y1 : Value} (k : Below wa.heap.size wa wb) (h : wa.cell? ⟨g, i0, none⟩ = some x0 ∧ wa.cell? ⟨g, i1, none⟩ = some x1 ∧ wa.cell? ⟨g, i2, none⟩ = some x2 ∧ wa.cell? ⟨g, i3, none⟩ = some x3 ∧ wa.cell? ⟨f, j0, none⟩ = some y0 ∧ wa.cell? ⟨f, j1, none⟩ = some y1 ∧ Below w0.heap.size w0 wa) :
    wb.cell? ⟨g, i0, none⟩ = some x0 ∧ wb.cell? ⟨g, i1, none⟩ = some x1 ∧ wb.cell? ⟨g, i2, none⟩ = some x2 ∧ wb.cell? ⟨g, i3, none⟩ = some x3 ∧ wb.cell? ⟨f, j0, none⟩ = some y0 ∧ wb.cell? ⟨f, j1, none⟩ = some y1 ∧ Below w0.heap.size w0 wb :=
  ⟨cell_later k h.1, cell_later k h.2.1, cell_later k h.2.2.1, cell_later k h.2.2.2.1, cell_later k h.2.2.2.2.1, cell_later k h.2.2.2.2.2.1, h.2.2.2.2.2.2.trans (k.mono h.2.2.2.2.2.2.size)⟩

theorem fld0 (x y c d : Value) (w : World) : Sem.run Try.prog (Instr.field 26 (.agg #[x, y, c, d]) 0) w = .ok (.agg #[x, y]) w := by rfl

/-- a block of four cells that may be written -/
def Room4 (w : World) (g : Nat) (ty : TypeId) : Prop := ∃ a b c d, AB w g ty [a, b, c, d]

theorem AB.far4 {w : World} {g f : Nat} {ty : TypeId} {cs : List Value} (h : AB w g ty cs) (hne : g ≠ f) (x y z u : Value) : AB ((((w.setCell ⟨f, 0, none⟩ x).setCell ⟨f, 1, none⟩ y).setCell ⟨f, 2, none⟩ z).setCell ⟨f, 3, none⟩ u) g ty cs :=
  (((h.far x hne).far y hne).far z hne).far u hne

theorem AB.room {w : World} {g : Nat} {ty : TypeId} {a b c d : Value} (h : AB w g ty [a, b, c, d]) : Room4 w g ty := ⟨a, b, c, d, h⟩

theorem Room4.later {w w' : World} {g : Nat} {ty : TypeId} (h : Room4 w g ty) (k : Below w.heap.size w w') : Room4 w' g ty := by
  obtain ⟨a, b, c, d, h⟩ := h
  exact ⟨a, b, c, d, h.later k⟩

theorem Room4.fill {w : World} {g : Nat} {ty : TypeId} (h : Room4 w g ty) (x y z u : Value) : AB ((((w.setCell ⟨g, 0, none⟩ x).setCell ⟨g, 1, none⟩ y).setCell ⟨g, 2, none⟩ z).setCell ⟨g, 3, none⟩ u) g ty [x, y, z, u] := by
  obtain ⟨a, b, c, d, h⟩ := h
  exact (((h.set (j := 0) x).set (j := 1) y).set (j := 2) z).set (j := 3) u

theorem Room4.cells {w : World} {g : Nat} {ty : TypeId} (h : Room4 w g ty) : ∃ a b c d, w.cell? ⟨g, 0, none⟩ = some a ∧ w.cell? ⟨g, 1, none⟩ = some b ∧ w.cell? ⟨g, 2, none⟩ = some c ∧ w.cell? ⟨g, 3, none⟩ = some d ∧ w.frozen? ⟨g, 0, none⟩ = false ∧ w.frozen? ⟨g, 1, none⟩ = false ∧ w.frozen? ⟨g, 2, none⟩ = false ∧ w.frozen? ⟨g, 3, none⟩ = false := by
  obtain ⟨a, b, c, d, h⟩ := h
  exact ⟨a, b, c, d, h.four⟩

theorem below_fill {w0 w : World} {g n : Nat} (h : Below n w0 w) (hg : n ≤ g) (x y z u : Value) : Below n w0 ((((w.setCell ⟨g, 0, none⟩ x).setCell ⟨g, 1, none⟩ y).setCell ⟨g, 2, none⟩ z).setCell ⟨g, 3, none⟩ u) :=
  (((h.setCell hg x).setCell hg y).setCell hg z).setCell hg u

theorem cell_fill {w : World} {g : Nat} {p : Addr} (hp : g ≠ p.block) (x y z u : Value) : ((((w.setCell ⟨g, 0, none⟩ x).setCell ⟨g, 1, none⟩ y).setCell ⟨g, 2, none⟩ z).setCell ⟨g, 3, none⟩ u).cell? p = w.cell? p := by
  have hn : ∀ i, (⟨g, i, none⟩ : Addr) ≠ p := fun i e => hp (by rw [← e])
  rw [World.cell?_setCell_other (h := hn 3), World.cell?_setCell_other (h := hn 2), World.cell?_setCell_other (h := hn 1), World.cell?_setCell_other (h := hn 0)]

theorem keepA6 {p0 p1 p2 p3 p4 p5 : Addr} {x0 x1 x2 x3 x4 x5 : Value} {w0 wa wb : World} (k : Below wa.heap.size wa wb) (h : wa.cell? p0 = some x0 ∧ wa.cell? p1 = some x1 ∧ wa.cell? p2 = some x2 ∧ wa.cell? p3 = some x3 ∧ wa.cell? p4 = some x4 ∧ wa.cell? p5 = some x5 ∧ Below w0.heap.size w0 wa) :
    wb.cell? p0 = some x0 ∧ wb.cell? p1 = some x1 ∧ wb.cell? p2 = some x2 ∧ wb.cell? p3 = some x3 ∧ wb.cell? p4 = some x4 ∧ wb.cell? p5 = some x5 ∧ Below w0.heap.size w0 wb :=
  ⟨cell_later k h.1, cell_later k h.2.1, cell_later k h.2.2.1, cell_later k h.2.2.2.1, cell_later k h.2.2.2.2.1, cell_later k h.2.2.2.2.2.1, h.2.2.2.2.2.2.trans (k.mono h.2.2.2.2.2.2.size)⟩

theorem keepA8 {p0 p1 p2 p3 p4 p5 p6 p7 : Addr} {x0 x1 x2 x3 x4 x5 x6 x7 : Value} {w0 wa wb : World} (k : Below wa.heap.size wa wb) (h : wa.cell? p0 = some x0 ∧ wa.cell? p1 = some x1 ∧ wa.cell? p2 = some x2 ∧ wa.cell? p3 = some x3 ∧ wa.cell? p4 = some x4 ∧ wa.cell? p5 = some x5 ∧ wa.cell? p6 = some x6 ∧ wa.cell? p7 = some x7 ∧ Below w0.heap.size w0 wa) :
    wb.cell? p0 = some x0 ∧ wb.cell? p1 = some x1 ∧ wb.cell? p2 = some x2 ∧ wb.cell? p3 = some x3 ∧ wb.cell? p4 = some x4 ∧ wb.cell? p5 = some x5 ∧ wb.cell? p6 = some x6 ∧ wb.cell? p7 = some x7 ∧ Below w0.heap.size w0 wb :=
  ⟨cell_later k h.1, cell_later k h.2.1, cell_later k h.2.2.1, cell_later k h.2.2.2.1, cell_later k h.2.2.2.2.1, cell_later k h.2.2.2.2.2.1, cell_later k h.2.2.2.2.2.2.1, cell_later k h.2.2.2.2.2.2.2.1, h.2.2.2.2.2.2.2.2.trans (k.mono h.2.2.2.2.2.2.2.2.size)⟩

theorem keepA8R {p0 p1 p2 p3 p4 p5 p6 p7 : Addr} {x0 x1 x2 x3 x4 x5 x6 x7 : Value} {w0 wa wb : World} {r : Nat} {ty : TypeId} (k : Below wa.heap.size wa wb) (h : wa.cell? p0 = some x0 ∧ wa.cell? p1 = some x1 ∧ wa.cell? p2 = some x2 ∧ wa.cell? p3 = some x3 ∧ wa.cell? p4 = some x4 ∧ wa.cell? p5 = some x5 ∧ wa.cell? p6 = some x6 ∧ wa.cell? p7 = some x7 ∧ Room4 wa r ty ∧ Below w0.heap.size w0 wa) :
    wb.cell? p0 = some x0 ∧ wb.cell? p1 = some x1 ∧ wb.cell? p2 = some x2 ∧ wb.cell? p3 = some x3 ∧ wb.cell? p4 = some x4 ∧ wb.cell? p5 = some x5 ∧ wb.cell? p6 = some x6 ∧ wb.cell? p7 = some x7 ∧ Room4 wb r ty ∧ Below w0.heap.size w0 wb :=
  ⟨cell_later k h.1, cell_later k h.2.1, cell_later k h.2.2.1, cell_later k h.2.2.2.1, cell_later k h.2.2.2.2.1, cell_later k h.2.2.2.2.2.1, cell_later k h.2.2.2.2.2.2.1, cell_later k h.2.2.2.2.2.2.2.1, h.2.2.2.2.2.2.2.2.1.later k, h.2.2.2.2.2.2.2.2.2.trans (k.mono h.2.2.2.2.2.2.2.2.2.size)⟩

theorem keepA8R' {p0 p1 p2 p3 p4 p5 p6 p7 : Addr} {x0 x1 x2 x3 x4 x5 x6 x7 y0 y1 y2 y3 : Value} {w0 wa : World} {r : Nat} {ty : TypeId} (h : wa.cell? p0 = some x0 ∧ wa.cell? p1 = some x1 ∧ wa.cell? p2 = some x2 ∧ wa.cell? p3 = some x3 ∧ wa.cell? p4 = some x4 ∧ wa.cell? p5 = some x5 ∧ wa.cell? p6 = some x6 ∧ wa.cell? p7 = some x7 ∧ Room4 wa r ty ∧ Below w0.heap.size w0 wa) (hr : w0.heap.size ≤ r) (h0 : r ≠ p0.block) (h1 : r ≠ p1.block) (h2 : r ≠ p2.block) (h3 : r ≠ p3.block) (h4 : r ≠ p4.block) (h5 : r ≠ p5.block) (h6 : r ≠ p6.block) (h7 : r ≠ p7.block) :
    ((((wa.setCell ⟨r, 0, none⟩ y0).setCell ⟨r, 1, none⟩ y1).setCell ⟨r, 2, none⟩ y2).setCell ⟨r, 3, none⟩ y3).cell? p0 = some x0 ∧ ((((wa.setCell ⟨r, 0, none⟩ y0).setCell ⟨r, 1, none⟩ y1).setCell ⟨r, 2, none⟩ y2).setCell ⟨r, 3, none⟩ y3).cell? p1 = some x1 ∧ ((((wa.setCell ⟨r, 0, none⟩ y0).setCell ⟨r, 1, none⟩ y1).setCell ⟨r, 2, none⟩ y2).setCell ⟨r, 3, none⟩ y3).cell? p2 = some x2 ∧ ((((wa.setCell ⟨r, 0, none⟩ y0).setCell ⟨r, 1, none⟩ y1).setCell ⟨r, 2, none⟩ y2).setCell ⟨r, 3, none⟩ y3).cell? p3 = some x3 ∧ ((((wa.setCell ⟨r, 0, none⟩ y0).setCell ⟨r, 1, none⟩ y1).setCell ⟨r, 2, none⟩ y2).setCell ⟨r, 3, none⟩ y3).cell? p4 = some x4 ∧ ((((wa.setCell ⟨r, 0, none⟩ y0).setCell ⟨r, 1, none⟩ y1).setCell ⟨r, 2, none⟩ y2).setCell ⟨r, 3, none⟩ y3).cell? p5 = some x5 ∧ ((((wa.setCell ⟨r, 0, none⟩ y0).setCell ⟨r, 1, none⟩ y1).setCell ⟨r, 2, none⟩ y2).setCell ⟨r, 3, none⟩ y3).cell? p6 = some x6 ∧ ((((wa.setCell ⟨r, 0, none⟩ y0).setCell ⟨r, 1, none⟩ y1).setCell ⟨r, 2, none⟩ y2).setCell ⟨r, 3, none⟩ y3).cell? p7 = some x7 ∧ Room4 ((((wa.setCell ⟨r, 0, none⟩ y0).setCell ⟨r, 1, none⟩ y1).setCell ⟨r, 2, none⟩ y2).setCell ⟨r, 3, none⟩ y3) r ty ∧ Below w0.heap.size w0 ((((wa.setCell ⟨r, 0, none⟩ y0).setCell ⟨r, 1, none⟩ y1).setCell ⟨r, 2, none⟩ y2).setCell ⟨r, 3, none⟩ y3) :=
  ⟨(cell_fill h0 _ _ _ _).trans h.1, (cell_fill h1 _ _ _ _).trans h.2.1, (cell_fill h2 _ _ _ _).trans h.2.2.1, (cell_fill h3 _ _ _ _).trans h.2.2.2.1, (cell_fill h4 _ _ _ _).trans h.2.2.2.2.1, (cell_fill h5 _ _ _ _).trans h.2.2.2.2.2.1, (cell_fill h6 _ _ _ _).trans h.2.2.2.2.2.2.1, (cell_fill h7 _ _ _ _).trans h.2.2.2.2.2.2.2.1, ⟨_, _, _, _, h.2.2.2.2.2.2.2.2.1.fill _ _ _ _⟩, below_fill h.2.2.2.2.2.2.2.2.2 hr _ _ _ _⟩

/-- what a region that fills a tern of its own holds -/
theorem keepF {g r : Nat} {ty : TypeId} {w0 wa wb : World} {x0 x1 x2 x3 : Value} (k : Below wa.heap.size wa wb) (h : wa.cell? ⟨g, 0, none⟩ = some x0 ∧ wa.cell? ⟨g, 1, none⟩ = some x1 ∧ wa.cell? ⟨g, 2, none⟩ = some x2 ∧ wa.cell? ⟨g, 3, none⟩ = some x3 ∧ Room4 wa r ty ∧ Below w0.heap.size w0 wa) :
    wb.cell? ⟨g, 0, none⟩ = some x0 ∧ wb.cell? ⟨g, 1, none⟩ = some x1 ∧ wb.cell? ⟨g, 2, none⟩ = some x2 ∧ wb.cell? ⟨g, 3, none⟩ = some x3 ∧ Room4 wb r ty ∧ Below w0.heap.size w0 wb :=
  ⟨cell_later k h.1, cell_later k h.2.1, cell_later k h.2.2.1, cell_later k h.2.2.2.1, h.2.2.2.2.1.later k, h.2.2.2.2.2.trans (k.mono h.2.2.2.2.2.size)⟩

theorem keepF' {g r : Nat} {ty : TypeId} {w0 wa : World} {x0 x1 x2 x3 y0 y1 y2 y3 : Value} (h : wa.cell? ⟨g, 0, none⟩ = some x0 ∧ wa.cell? ⟨g, 1, none⟩ = some x1 ∧ wa.cell? ⟨g, 2, none⟩ = some x2 ∧ wa.cell? ⟨g, 3, none⟩ = some x3 ∧ Room4 wa r ty ∧ Below w0.heap.size w0 wa) (hg : r ≠ g) (hr : w0.heap.size ≤ r) :
    ((((wa.setCell ⟨r, 0, none⟩ y0).setCell ⟨r, 1, none⟩ y1).setCell ⟨r, 2, none⟩ y2).setCell ⟨r, 3, none⟩ y3).cell? ⟨g, 0, none⟩ = some x0 ∧ ((((wa.setCell ⟨r, 0, none⟩ y0).setCell ⟨r, 1, none⟩ y1).setCell ⟨r, 2, none⟩ y2).setCell ⟨r, 3, none⟩ y3).cell? ⟨g, 1, none⟩ = some x1 ∧ ((((wa.setCell ⟨r, 0, none⟩ y0).setCell ⟨r, 1, none⟩ y1).setCell ⟨r, 2, none⟩ y2).setCell ⟨r, 3, none⟩ y3).cell? ⟨g, 2, none⟩ = some x2 ∧ ((((wa.setCell ⟨r, 0, none⟩ y0).setCell ⟨r, 1, none⟩ y1).setCell ⟨r, 2, none⟩ y2).setCell ⟨r, 3, none⟩ y3).cell? ⟨g, 3, none⟩ = some x3 ∧ Room4 ((((wa.setCell ⟨r, 0, none⟩ y0).setCell ⟨r, 1, none⟩ y1).setCell ⟨r, 2, none⟩ y2).setCell ⟨r, 3, none⟩ y3) r ty ∧ Below w0.heap.size w0 ((((wa.setCell ⟨r, 0, none⟩ y0).setCell ⟨r, 1, none⟩ y1).setCell ⟨r, 2, none⟩ y2).setCell ⟨r, 3, none⟩ y3) :=
  ⟨(cell_fill hg _ _ _ _).trans h.1, (cell_fill hg _ _ _ _).trans h.2.1, (cell_fill hg _ _ _ _).trans h.2.2.1, (cell_fill hg _ _ _ _).trans h.2.2.2.1, ⟨_, _, _, _, h.2.2.2.2.1.fill _ _ _ _⟩, below_fill h.2.2.2.2.2 hr _ _ _ _⟩

set_option maxRecDepth 100000 in
set_option maxHeartbeats 1000000 in
theorem tclean_any (a b c d : Nat) (w : World) (ha : a < 18446744073709551616) (hb : b < 18446744073709551616) (hc : c < 18446744073709551616) (hd : d < 18446744073709551616) :
    Calls Try.prog 61 #[td a b c d] w fun e w' => e = .returned (td (a &&& c) (b &&& d) c d) ∧ Below w.heap.size w w' := by
  have q1 := hide_ (fun w => and_any a b c d w ha hb hc hd)
  generalize a &&& c = x at *
  generalize b &&& d = y at *
  unfold td
  unfold wd at *
  have HA := hide_ ((AB.at0 w 26 [.int .u64 (a : Int), .int .u64 (b : Int), .int .u64 (c : Int), .int .u64 (d : Int)]).alloc (.cells #[.int .u64 (0 : Int), .int .u64 (0 : Int), .int .u64 (0 : Int), .int .u64 (0 : Int)] 26))
  have HZ := hide_ (AB.at1 w (.cells #[.int .u64 (a : Int), .int .u64 (b : Int), .int .u64 (c : Int), .int .u64 (d : Int)] 26) 26 [.int .u64 (0 : Int), .int .u64 (0 : Int), .int .u64 (0 : Int), .int .u64 (0 : Int)])
  have HB := hide_ (below2 w (.cells #[.int .u64 (a : Int), .int .u64 (b : Int), .int .u64 (c : Int), .int .u64 (d : Int)] 26) (.cells #[.int .u64 (0 : Int), .int .u64 (0 : Int), .int .u64 (0 : Int), .int .u64 (0 : Int)] 26))
  go_enter Try.func61, Try.ntmps61
  go_wp2_with (go_at_call 45; refine (q1.out _).mono ?_; rintro e w1 ⟨rfl, b1⟩; have bb : Below w.heap.size w w1 := HB.out.trans (b1.mono HB.out.size); obtain ⟨c0, c1, c2, c3, f0, f1, f2, f3⟩ := (HA.out.later b1).four; have A2 := hide_ (((HA.out.later b1).set (j := 0) (.int .u64 (x : Int))).set (j := 1) (.int .u64 (y : Int))); obtain ⟨d0, d1, d2, d3, g0, g1, g2, g3⟩ := A2.out.four; obtain ⟨s0, s1, s2, s3, t0, t1, t2, t3⟩ := (((HZ.out.later b1).far (.int .u64 (x : Int)) (f := w.heap.size) (o := 0) (by omega)).far (.int .u64 (y : Int)) (f := w.heap.size) (o := 1) (by omega)).four; have Z4 := hide_ ((((((((HZ.out.later b1).far (.int .u64 (x : Int)) (f := w.heap.size) (o := 0) (by omega)).far (.int .u64 (y : Int)) (f := w.heap.size) (o := 1) (by omega)).set (j := 0) (.int .u64 (x : Int))).set (j := 1) (.int .u64 (y : Int))).set (j := 2) (.int .u64 (c : Int))).set (j := 3) (.int .u64 (d : Int)))))
  obtain ⟨z0, z1, z2, z3, -⟩ := Z4.out.four
  exact bodyPost_ret (v := .agg #[.int .u64 (x : Int), .int .u64 (y : Int), .int .u64 (c : Int), .int .u64 (d : Int)]) (by simp [results, Try.results61, go_sem, z0, z1, z2, z3]) rfl ⟨rfl, (((((bb.setCell (Nat.le_refl _) _).setCell (Nat.le_refl _) _).setCell (Nat.le_succ _) _).setCell (Nat.le_succ _) _).setCell (Nat.le_succ _) _).setCell (Nat.le_succ _) _⟩

set_option maxRecDepth 100000 in
set_option maxHeartbeats 1000000 in
theorem rtclean_any (a b c d : Nat) (w : World) (ha : a < 18446744073709551616) (hb : b < 18446744073709551616) (hc : c < 18446744073709551616) (hd : d < 18446744073709551616) :
    Calls Try.prog 55 #[td a b c d] w fun e w' => e = .returned (td (a &&& c) (b &&& d) c d) ∧ Below w.heap.size w w' := by
  have q1 := hide_ (fun w => rand_any a b c d w ha hb hc hd)
  generalize a &&& c = x at *
  generalize b &&& d = y at *
  unfold td
  unfold wd at *
  have HA := hide_ ((AB.at0 w 26 [.int .u64 (a : Int), .int .u64 (b : Int), .int .u64 (c : Int), .int .u64 (d : Int)]).alloc (.cells #[.int .u64 (0 : Int), .int .u64 (0 : Int), .int .u64 (0 : Int), .int .u64 (0 : Int)] 26))
  have HZ := hide_ (AB.at1 w (.cells #[.int .u64 (a : Int), .int .u64 (b : Int), .int .u64 (c : Int), .int .u64 (d : Int)] 26) 26 [.int .u64 (0 : Int), .int .u64 (0 : Int), .int .u64 (0 : Int), .int .u64 (0 : Int)])
  have HB := hide_ (below2 w (.cells #[.int .u64 (a : Int), .int .u64 (b : Int), .int .u64 (c : Int), .int .u64 (d : Int)] 26) (.cells #[.int .u64 (0 : Int), .int .u64 (0 : Int), .int .u64 (0 : Int), .int .u64 (0 : Int)] 26))
  go_enter Try.func55, Try.ntmps55
  go_wp2_with fail
  go_region_held3 (fun w' => w'.cell? ⟨w.heap.size, 0, none⟩ = some (.int .u64 (a : Int)) ∧ w'.cell? ⟨w.heap.size, 1, none⟩ = some (.int .u64 (b : Int)) ∧ w'.cell? ⟨w.heap.size, 2, none⟩ = some (.int .u64 (c : Int)) ∧ w'.cell? ⟨w.heap.size, 3, none⟩ = some (.int .u64 (d : Int)) ∧ Room4 w' (w.heap.size + 1) 26 ∧ Below w.heap.size w w')
    (first | (with_reducible exact keepF (by assumption) (by assumption)) | (with_reducible exact keepF' (by assumption) (by omega) (by omega)) | (exact ⟨by simp [go_sem], by simp [go_sem], by simp [go_sem], by simp [go_sem], ⟨_, _, _, _, HZ.out⟩, HB.out.drew⟩))
    (first | (go_at_call 62; refine (q1.out _).mono ?_; rintro e w1 ⟨rfl, b1⟩; have hS1 := keepF b1 (by assumption); obtain ⟨z0, z1, z2, z3, e0, e1, e2, e3, p0, p1, p2, p3⟩ := hS1.2.2.2.2.1.cells))
  have Z := hS1.2.2.2.2.1.fill (.int .u64 (x : Int)) (.int .u64 (y : Int)) (.int .u64 (c : Int)) (.int .u64 (d : Int))
  have bb := below_fill (g := w.heap.size + 1) hS1.2.2.2.2.2 (Nat.le_succ _) (.int .u64 (x : Int)) (.int .u64 (y : Int)) (.int .u64 (c : Int)) (.int .u64 (d : Int))
  obtain ⟨g0, g1, g2, g3, -⟩ := Z.four
  clear hS1 e0 e1 e2 e3 p0 p1 p2 p3 b1
  rename_i hH
  clear hH
  go_wp2
  exact bodyPost_ret (v := .agg #[.int .u64 (x : Int), .int .u64 (y : Int), .int .u64 (c : Int), .int .u64 (d : Int)]) (by simp [results, Try.results55, go_sem, g0, g1, g2, g3]) rfl ⟨rfl, bb⟩

set_option maxRecDepth 100000 in
set_option maxHeartbeats 1000000 in
theorem thas_any (a b c d x y : Nat) (w : World) (ha : a < 18446744073709551616) (hb : b < 18446744073709551616) (hc : c < 18446744073709551616) (hd : d < 18446744073709551616) (hx : x < 18446744073709551616) (hy : y < 18446744073709551616) :
    Calls Try.prog 29 #[td a b c d, wd x y] w fun e w' => e = .returned (.bool ((a ^^^ x) &&& c == 0 && (b ^^^ y) &&& d == 0)) ∧ Below w.heap.size w w' := by
  rw [show (a ^^^ x) &&& c = c &&& (a ^^^ x) from Nat.and_comm _ _, show (b ^^^ y) &&& d = d &&& (b ^^^ y) from Nat.and_comm _ _]
  have q1 := hide_ (fun w => xor_any a b x y w ha hb hx hy)
  have q2 := hide_ (fun w => and_any c d (a ^^^ x) (b ^^^ y) w hc hd (xor_lt a x ha hx) (xor_lt b y hb hy))
  have q3 := hide_ (fun w => zero_any (c &&& (a ^^^ x)) (d &&& (b ^^^ y)) w)
  generalize c &&& (a ^^^ x) = m1 at *
  generalize d &&& (b ^^^ y) = m2 at *
  generalize a ^^^ x = n1 at *
  generalize b ^^^ y = n2 at *
  generalize (m1 == 0 && m2 == 0) = z at *
  unfold td
  unfold wd at *
  go_enter Try.func29, Try.ntmps29
  go_wp2_with fail
  go_region_held3 (fun w' => w'.cell? ⟨w.heap.size, 0, none⟩ = some (.int .u64 (a : Int)) ∧ w'.cell? ⟨w.heap.size, 1, none⟩ = some (.int .u64 (b : Int)) ∧ w'.cell? ⟨w.heap.size, 2, none⟩ = some (.int .u64 (c : Int)) ∧ w'.cell? ⟨w.heap.size, 3, none⟩ = some (.int .u64 (d : Int)) ∧ w'.cell? ⟨w.heap.size + 1, 0, none⟩ = some (.int .u64 (x : Int)) ∧ w'.cell? ⟨w.heap.size + 1, 1, none⟩ = some (.int .u64 (y : Int)) ∧ Below w.heap.size w w')
    (first | (exact keepH (by assumption) (by assumption)) | (exact ⟨by simp [go_sem], by simp [go_sem], by simp [go_sem], by simp [go_sem], by simp [go_sem], by simp [go_sem], by go_grown⟩))
    (first | (go_at_call 46; refine (q1.out _).mono ?_; rintro e w' ⟨rfl, hb⟩) | (go_at_call 45; refine (q2.out _).mono ?_; rintro e w' ⟨rfl, hb⟩) | (go_at_call 44; refine (q3.out _).mono ?_; rintro e w' ⟨rfl, hb⟩))
  rename_i hH
  have bel := hH.2.2.2.2.2.2
  clear hH
  go_wp2
  go_ret
  exact ⟨rfl, bel⟩

set_option maxRecDepth 100000 in
set_option maxHeartbeats 2000000 in
theorem tmeet_any (a b c d a2 b2 c2 d2 : Nat) (w : World) (ha : a < 18446744073709551616) (hb : b < 18446744073709551616) (hc : c < 18446744073709551616) (hd : d < 18446744073709551616) (ha2 : a2 < 18446744073709551616) (hb2 : b2 < 18446744073709551616) (hc2 : c2 < 18446744073709551616) (hd2 : d2 < 18446744073709551616) :
    Calls Try.prog 40 #[td a b c d, td a2 b2 c2 d2] w fun e w' => e = .returned (if (a ^^^ a2) &&& (c &&& c2) = 0 ∧ (b ^^^ b2) &&& (d &&& d2) = 0 then .tuple #[td (a &&& c ||| a2 &&& c2) (b &&& d ||| b2 &&& d2) (c ||| c2) (d ||| d2), .bool true] else .tuple #[td 0 0 0 0, .bool false]) ∧ Below w.heap.size w w' := by
  have q1 := hide_ (fun w => and_any c d c2 d2 w hc hd hc2 hd2)
  have q2 := hide_ (fun w => xor_any a b a2 b2 w ha hb ha2 hb2)
  have q3 := hide_ (fun w => and_any (c &&& c2) (d &&& d2) (a ^^^ a2) (b ^^^ b2) w (and_lt _ _ hc) (and_lt _ _ hd) (xor_lt _ _ ha ha2) (xor_lt _ _ hb hb2))
  have q4 := hide_ (fun w => zero_any ((c &&& c2) &&& (a ^^^ a2)) ((d &&& d2) &&& (b ^^^ b2)) w)
  have q5 := hide_ (fun w => tclean_any a b c d w ha hb hc hd)
  have q6 := hide_ (fun w => tclean_any a2 b2 c2 d2 w ha2 hb2 hc2 hd2)
  have q7 := hide_ (fun w => or_any (a &&& c) (b &&& d) (a2 &&& c2) (b2 &&& d2) w (and_lt _ _ ha) (and_lt _ _ hb) (and_lt _ _ ha2) (and_lt _ _ hb2))
  have q8 := hide_ (fun w => or_any c d c2 d2 w hc hd hc2 hd2)
  rw [show (a ^^^ a2) &&& (c &&& c2) = (c &&& c2) &&& (a ^^^ a2) from Nat.and_comm _ _, show (b ^^^ b2) &&& (d &&& d2) = (d &&& d2) &&& (b ^^^ b2) from Nat.and_comm _ _]
  generalize hm1 : (c &&& c2) &&& (a ^^^ a2) = m1 at *
  generalize hm2 : (d &&& d2) &&& (b ^^^ b2) = m2 at *
  clear hm1 hm2
  generalize hR : (if m1 = 0 ∧ m2 = 0 then Value.tuple #[td (a &&& c ||| a2 &&& c2) (b &&& d ||| b2 &&& d2) (c ||| c2) (d ||| d2), .bool true] else .tuple #[td 0 0 0 0, .bool false]) = R
  have HT : (m1 == 0 && m2 == 0) = true → Value.tuple #[td (a &&& c ||| a2 &&& c2) (b &&& d ||| b2 &&& d2) (c ||| c2) (d ||| d2), .bool true] = R := fun h => by
    rw [← hR, if_pos (by simpa using h)]
  have HF : (m1 == 0 && m2 == 0) = false → Value.tuple #[td 0 0 0 0, .bool false] = R := fun h => by
    rw [← hR, if_neg (by intro ⟨k, k'⟩; rw [k, k'] at h; cases h)]
  clear hR
  generalize (m1 == 0 && m2 == 0) = z at *
  generalize a ^^^ a2 = n1 at *
  generalize b ^^^ b2 = n2 at *
  generalize c &&& c2 = k1 at *
  generalize d &&& d2 = k2 at *
  generalize a &&& c ||| a2 &&& c2 = r1 at *
  generalize b &&& d ||| b2 &&& d2 = r2 at *
  generalize c ||| c2 = r3 at *
  generalize d ||| d2 = r4 at *
  generalize a &&& c = x1 at *
  generalize b &&& d = x2 at *
  generalize a2 &&& c2 = y1 at *
  generalize b2 &&& d2 = y2 at *
  clear ha hb hc hd ha2 hb2 hc2 hd2
  unfold td at *
  unfold wd at *
  have hf0 := fun x y c d w => fld0 x y c d w
  have HT' := hide_ HT
  have HF' := hide_ HF
  clear HT HF
  have HA := hide_ (((AB.at0 w 26 [.int .u64 (a : Int), .int .u64 (b : Int), .int .u64 (c : Int), .int .u64 (d : Int)]).alloc (.cells #[.int .u64 (a2 : Int), .int .u64 (b2 : Int), .int .u64 (c2 : Int), .int .u64 (d2 : Int)] 26)).alloc (.cells #[.int .u64 (0 : Int), .int .u64 (0 : Int), .int .u64 (0 : Int), .int .u64 (0 : Int)] 26))
  have HC := hide_ ((AB.at1 w (.cells #[.int .u64 (a : Int), .int .u64 (b : Int), .int .u64 (c : Int), .int .u64 (d : Int)] 26) 26 [.int .u64 (a2 : Int), .int .u64 (b2 : Int), .int .u64 (c2 : Int), .int .u64 (d2 : Int)]).alloc (.cells #[.int .u64 (0 : Int), .int .u64 (0 : Int), .int .u64 (0 : Int), .int .u64 (0 : Int)] 26))
  have HZ := hide_ (AB.at2 w (.cells #[.int .u64 (a : Int), .int .u64 (b : Int), .int .u64 (c : Int), .int .u64 (d : Int)] 26) (.cells #[.int .u64 (a2 : Int), .int .u64 (b2 : Int), .int .u64 (c2 : Int), .int .u64 (d2 : Int)] 26) 26 [.int .u64 (0 : Int), .int .u64 (0 : Int), .int .u64 (0 : Int), .int .u64 (0 : Int)])
  have HB := hide_ (below3 w (.cells #[.int .u64 (a : Int), .int .u64 (b : Int), .int .u64 (c : Int), .int .u64 (d : Int)] 26) (.cells #[.int .u64 (a2 : Int), .int .u64 (b2 : Int), .int .u64 (c2 : Int), .int .u64 (d2 : Int)] 26) (.cells #[.int .u64 (0 : Int), .int .u64 (0 : Int), .int .u64 (0 : Int), .int .u64 (0 : Int)] 26))
  go_enter Try.func40, Try.ntmps40
  go_wp2_with (go_at_call 45; refine (q1.out _).mono ?_; rintro e w1 ⟨rfl, b1⟩; have bb : Below w.heap.size w w1 := HB.out.trans (b1.mono HB.out.size); have HA1 := hide_ (HA.out.later b1); have HC1 := hide_ (HC.out.later b1); have HZ1 := hide_ (HZ.out.later b1); clear HA HC HZ b1 HB)
  have A1 := HA1.out.alloc (.cells #[.int .u64 (k1 : Int), .int .u64 (k2 : Int)] 24)
  have C1 := HC1.out.alloc (.cells #[.int .u64 (k1 : Int), .int .u64 (k2 : Int)] 24)
  have Z1 := HZ1.out.alloc (.cells #[.int .u64 (k1 : Int), .int .u64 (k2 : Int)] 24)
  obtain ⟨s0, s1, -⟩ := (AB.at0 w1 24 [.int .u64 (k1 : Int), .int .u64 (k2 : Int)]).two
  have B1 := bb.alloc bb.size (.cells #[.int .u64 (k1 : Int), .int .u64 (k2 : Int)] 24)
  clear HA1 HC1 HZ1 bb
  generalize w1.alloc (.cells #[.int .u64 (k1 : Int), .int .u64 (k2 : Int)] 24) = W at *
  generalize w1.heap.size = n at *
  obtain ⟨o0, o1, o2, o3, -⟩ := A1.four
  obtain ⟨i0, i1, i2, i3, -⟩ := C1.four
  have KA := hide_ A1
  have KC := hide_ C1
  have KZ := hide_ Z1
  have KB := hide_ B1
  clear A1 C1 Z1 B1
  go_region_held3 (fun w' => w'.cell? ⟨w.heap.size, 0, none⟩ = some (.int .u64 (a : Int)) ∧ w'.cell? ⟨w.heap.size, 1, none⟩ = some (.int .u64 (b : Int)) ∧ w'.cell? ⟨w.heap.size + 1, 0, none⟩ = some (.int .u64 (a2 : Int)) ∧ w'.cell? ⟨w.heap.size + 1, 1, none⟩ = some (.int .u64 (b2 : Int)) ∧ w'.cell? ⟨n, 0, none⟩ = some (.int .u64 (k1 : Int)) ∧ w'.cell? ⟨n, 1, none⟩ = some (.int .u64 (k2 : Int)) ∧ Below W.heap.size W w')
    (first | (with_reducible exact keepA6 (by assumption) (by assumption)) | (exact ⟨o0, o1, i0, i1, s0, s1, (Below.refl _ _).drew⟩) | (exact ⟨o0, o1, i0, i1, s0, s1, (Below.refl _ _)⟩))
    (first | (go_at_call 46; refine (q2.out _).mono ?_; rintro e w' ⟨rfl, hb⟩) | (go_at_call 45; refine (q3.out _).mono ?_; rintro e w' ⟨rfl, hb⟩) | (go_at_call 44; refine (q4.out _).mono ?_; rintro e w' ⟨rfl, hb⟩))
  rename_i hH
  have bel := hH.2.2.2.2.2.2
  clear hH o0 o1 o2 o3 i0 i1 i2 i3 s0 s1
  have KA2 := hide_ (KA.out.later bel)
  have KC2 := hide_ (KC.out.later bel)
  have KZ2 := hide_ (KZ.out.later bel)
  have KB2 := hide_ (KB.out.trans (bel.mono KB.out.size))
  clear KA KC KZ KB bel hb
  obtain ⟨c0, c1, c2', c3, f0, f1, f2, f3⟩ := KZ2.out.four
  cases z
  · have Z := hide_ (KZ2.out.room.fill (.int .u64 0) (.int .u64 0) (.int .u64 0) (.int .u64 0))
    obtain ⟨g0, g1, g2, g3, -⟩ := Z.out.four
    go_wp2_with fail
    exact bodyPost_ret (v := .tuple #[.agg #[.int .u64 0, .int .u64 0, .int .u64 0, .int .u64 0], .bool false]) (by simp [results, Try.results40, go_sem, g0, g1, g2, g3]) rfl ⟨congrArg _ (HF'.out (by trivial)), below_fill KB2.out (by omega) _ _ _ _⟩
  · clear c0 c1 c2' c3 f0 f1 f2 f3
    go_wp2_with fail
    obtain ⟨o0, o1, o2, o3, -⟩ := KA2.out.four
    obtain ⟨i0, i1, i2, i3, -⟩ := KC2.out.four
    go_region_held3 (fun w' => w'.cell? ⟨w.heap.size, 0, none⟩ = some (.int .u64 (a : Int)) ∧ w'.cell? ⟨w.heap.size, 1, none⟩ = some (.int .u64 (b : Int)) ∧ w'.cell? ⟨w.heap.size, 2, none⟩ = some (.int .u64 (c : Int)) ∧ w'.cell? ⟨w.heap.size, 3, none⟩ = some (.int .u64 (d : Int)) ∧ w'.cell? ⟨w.heap.size + 1, 0, none⟩ = some (.int .u64 (a2 : Int)) ∧ w'.cell? ⟨w.heap.size + 1, 1, none⟩ = some (.int .u64 (b2 : Int)) ∧ w'.cell? ⟨w.heap.size + 1, 2, none⟩ = some (.int .u64 (c2 : Int)) ∧ w'.cell? ⟨w.heap.size + 1, 3, none⟩ = some (.int .u64 (d2 : Int)) ∧ Room4 w' (w.heap.size + 1 + 1) 26 ∧ Below w.heap.size w w')
      (first | (with_reducible exact keepA8R (by assumption) (by assumption)) | (with_reducible exact keepA8R' (by assumption) (by omega) (by dsimp only; omega) (by dsimp only; omega) (by dsimp only; omega) (by dsimp only; omega) (by dsimp only; omega) (by dsimp only; omega) (by dsimp only; omega) (by dsimp only; omega)) | (exact ⟨o0, o1, o2, o3, i0, i1, i2, i3, KZ2.out.room, KB2.out.drew⟩) | (exact ⟨o0, o1, o2, o3, i0, i1, i2, i3, KZ2.out.room, KB2.out⟩))
      (first | (go_at_call_of 61 (Value.int IntKind.u64 (a : Int)); refine (q5.out _).mono ?_; rintro e w' ⟨rfl, hb⟩) | (go_at_call_of 61 (Value.int IntKind.u64 (a2 : Int)); refine (q6.out _).mono ?_; rintro e w' ⟨rfl, hb⟩) | (go_at_call_of 60 (Value.int IntKind.u64 (x1 : Int)); refine (q7.out _).mono ?_; rintro e w' ⟨rfl, hb⟩) | (go_at_call_of 60 (Value.int IntKind.u64 (c : Int)); refine (q8.out _).mono ?_; rintro e w4 ⟨rfl, b4⟩; have hS4 := keepA8R b4 (by assumption); obtain ⟨z0, z1, z2, z3, e0, e1, e2, e3, p0, p1, p2, p3⟩ := hS4.2.2.2.2.2.2.2.2.1.cells))
    have Z := hS4.2.2.2.2.2.2.2.2.1.fill (.int .u64 (r1 : Int)) (.int .u64 (r2 : Int)) (.int .u64 (r3 : Int)) (.int .u64 (r4 : Int))
    have bb := below_fill (g := w.heap.size + 1 + 1) hS4.2.2.2.2.2.2.2.2.2 (by omega) (.int .u64 (r1 : Int)) (.int .u64 (r2 : Int)) (.int .u64 (r3 : Int)) (.int .u64 (r4 : Int))
    obtain ⟨g0, g1, g2, g3, -⟩ := Z.four
    clear hS4 e0 e1 e2 e3 p0 p1 p2 p3
    rename_i hH
    clear hH
    go_wp2_with fail
    exact bodyPost_ret (v := .tuple #[.agg #[.int .u64 (r1 : Int), .int .u64 (r2 : Int), .int .u64 (r3 : Int), .int .u64 (r4 : Int)], .bool true]) (by simp [results, Try.results40, go_sem, g0, g1, g2, g3]) rfl ⟨congrArg _ (HT'.out trivial), bb⟩

set_option maxRecDepth 100000 in
set_option maxHeartbeats 2000000 in
theorem rtmeet_any (a b c d a2 b2 c2 d2 : Nat) (w : World) (ha : a < 18446744073709551616) (hb : b < 18446744073709551616) (hc : c < 18446744073709551616) (hd : d < 18446744073709551616) (ha2 : a2 < 18446744073709551616) (hb2 : b2 < 18446744073709551616) (hc2 : c2 < 18446744073709551616) (hd2 : d2 < 18446744073709551616) :
    Calls Try.prog 41 #[td a b c d, td a2 b2 c2 d2] w fun e w' => e = .returned (if (a ^^^ a2) &&& (c &&& c2) = 0 ∧ (b ^^^ b2) &&& (d &&& d2) = 0 then .tuple #[td (a &&& c ||| a2 &&& c2) (b &&& d ||| b2 &&& d2) (c ||| c2) (d ||| d2), .bool true] else .tuple #[td 0 0 0 0, .bool false]) ∧ Below w.heap.size w w' := by
  have q1 := hide_ (fun w => rand_any c d c2 d2 w hc hd hc2 hd2)
  have q2 := hide_ (fun w => rxor_any a b a2 b2 w ha hb ha2 hb2)
  have q3 := hide_ (fun w => rand_any (a ^^^ a2) (b ^^^ b2) (c &&& c2) (d &&& d2) w (xor_lt _ _ ha ha2) (xor_lt _ _ hb hb2) (and_lt _ _ hc) (and_lt _ _ hd))
  have q4 := hide_ (fun w => rzero_any ((a ^^^ a2) &&& (c &&& c2)) ((b ^^^ b2) &&& (d &&& d2)) w)
  have q5 := hide_ (fun w => rtclean_any a b c d w ha hb hc hd)
  have q6 := hide_ (fun w => rtclean_any a2 b2 c2 d2 w ha2 hb2 hc2 hd2)
  have q7 := hide_ (fun w => ror_any (a &&& c) (b &&& d) (a2 &&& c2) (b2 &&& d2) w (and_lt _ _ ha) (and_lt _ _ hb) (and_lt _ _ ha2) (and_lt _ _ hb2))
  have q8 := hide_ (fun w => ror_any c d c2 d2 w hc hd hc2 hd2)
  generalize hm1 : (a ^^^ a2) &&& (c &&& c2) = m1 at *
  generalize hm2 : (b ^^^ b2) &&& (d &&& d2) = m2 at *
  clear hm1 hm2
  generalize hR : (if m1 = 0 ∧ m2 = 0 then Value.tuple #[td (a &&& c ||| a2 &&& c2) (b &&& d ||| b2 &&& d2) (c ||| c2) (d ||| d2), .bool true] else .tuple #[td 0 0 0 0, .bool false]) = R
  have HT : (m1 == 0 && m2 == 0) = true → Value.tuple #[td (a &&& c ||| a2 &&& c2) (b &&& d ||| b2 &&& d2) (c ||| c2) (d ||| d2), .bool true] = R := fun h => by
    rw [← hR, if_pos (by simpa using h)]
  have HF : (m1 == 0 && m2 == 0) = false → Value.tuple #[td 0 0 0 0, .bool false] = R := fun h => by
    rw [← hR, if_neg (by intro ⟨k, k'⟩; rw [k, k'] at h; cases h)]
  clear hR
  generalize (m1 == 0 && m2 == 0) = z at *
  generalize a ^^^ a2 = n1 at *
  generalize b ^^^ b2 = n2 at *
  generalize c &&& c2 = k1 at *
  generalize d &&& d2 = k2 at *
  generalize a &&& c ||| a2 &&& c2 = r1 at *
  generalize b &&& d ||| b2 &&& d2 = r2 at *
  generalize c ||| c2 = r3 at *
  generalize d ||| d2 = r4 at *
  generalize a &&& c = x1 at *
  generalize b &&& d = x2 at *
  generalize a2 &&& c2 = y1 at *
  generalize b2 &&& d2 = y2 at *
  clear ha hb hc hd ha2 hb2 hc2 hd2
  unfold td at *
  unfold wd at *
  have hf0 := fun x y c d w => fld0 x y c d w
  have HT' := hide_ HT
  have HF' := hide_ HF
  clear HT HF
  have HA := hide_ (((AB.at0 w 26 [.int .u64 (a : Int), .int .u64 (b : Int), .int .u64 (c : Int), .int .u64 (d : Int)]).alloc (.cells #[.int .u64 (a2 : Int), .int .u64 (b2 : Int), .int .u64 (c2 : Int), .int .u64 (d2 : Int)] 26)).alloc (.cells #[.int .u64 (0 : Int), .int .u64 (0 : Int), .int .u64 (0 : Int), .int .u64 (0 : Int)] 26))
  have HC := hide_ ((AB.at1 w (.cells #[.int .u64 (a : Int), .int .u64 (b : Int), .int .u64 (c : Int), .int .u64 (d : Int)] 26) 26 [.int .u64 (a2 : Int), .int .u64 (b2 : Int), .int .u64 (c2 : Int), .int .u64 (d2 : Int)]).alloc (.cells #[.int .u64 (0 : Int), .int .u64 (0 : Int), .int .u64 (0 : Int), .int .u64 (0 : Int)] 26))
  have HZ := hide_ (AB.at2 w (.cells #[.int .u64 (a : Int), .int .u64 (b : Int), .int .u64 (c : Int), .int .u64 (d : Int)] 26) (.cells #[.int .u64 (a2 : Int), .int .u64 (b2 : Int), .int .u64 (c2 : Int), .int .u64 (d2 : Int)] 26) 26 [.int .u64 (0 : Int), .int .u64 (0 : Int), .int .u64 (0 : Int), .int .u64 (0 : Int)])
  have HB := hide_ (below3 w (.cells #[.int .u64 (a : Int), .int .u64 (b : Int), .int .u64 (c : Int), .int .u64 (d : Int)] 26) (.cells #[.int .u64 (a2 : Int), .int .u64 (b2 : Int), .int .u64 (c2 : Int), .int .u64 (d2 : Int)] 26) (.cells #[.int .u64 (0 : Int), .int .u64 (0 : Int), .int .u64 (0 : Int), .int .u64 (0 : Int)] 26))
  go_enter Try.func41, Try.ntmps41
  go_wp2_with (go_at_call 62; refine (q1.out _).mono ?_; rintro e w1 ⟨rfl, b1⟩; have bb : Below w.heap.size w w1 := HB.out.trans (b1.mono HB.out.size); have HA1 := hide_ (HA.out.later b1); have HC1 := hide_ (HC.out.later b1); have HZ1 := hide_ (HZ.out.later b1); clear HA HC HZ b1 HB)
  have A1 := HA1.out.alloc (.cells #[.int .u64 (k1 : Int), .int .u64 (k2 : Int)] 24)
  have C1 := HC1.out.alloc (.cells #[.int .u64 (k1 : Int), .int .u64 (k2 : Int)] 24)
  have Z1 := HZ1.out.alloc (.cells #[.int .u64 (k1 : Int), .int .u64 (k2 : Int)] 24)
  obtain ⟨s0, s1, -⟩ := (AB.at0 w1 24 [.int .u64 (k1 : Int), .int .u64 (k2 : Int)]).two
  have B1 := bb.alloc bb.size (.cells #[.int .u64 (k1 : Int), .int .u64 (k2 : Int)] 24)
  clear HA1 HC1 HZ1 bb
  generalize w1.alloc (.cells #[.int .u64 (k1 : Int), .int .u64 (k2 : Int)] 24) = W at *
  generalize w1.heap.size = n at *
  obtain ⟨o0, o1, o2, o3, -⟩ := A1.four
  obtain ⟨i0, i1, i2, i3, -⟩ := C1.four
  have KA := hide_ A1
  have KC := hide_ C1
  have KZ := hide_ Z1
  have KB := hide_ B1
  clear A1 C1 Z1 B1
  go_region_held3 (fun w' => w'.cell? ⟨w.heap.size, 0, none⟩ = some (.int .u64 (a : Int)) ∧ w'.cell? ⟨w.heap.size, 1, none⟩ = some (.int .u64 (b : Int)) ∧ w'.cell? ⟨w.heap.size + 1, 0, none⟩ = some (.int .u64 (a2 : Int)) ∧ w'.cell? ⟨w.heap.size + 1, 1, none⟩ = some (.int .u64 (b2 : Int)) ∧ w'.cell? ⟨n, 0, none⟩ = some (.int .u64 (k1 : Int)) ∧ w'.cell? ⟨n, 1, none⟩ = some (.int .u64 (k2 : Int)) ∧ Below W.heap.size W w')
    (first | (with_reducible exact keepA6 (by assumption) (by assumption)) | (exact ⟨o0, o1, i0, i1, s0, s1, (Below.refl _ _).drew⟩) | (exact ⟨o0, o1, i0, i1, s0, s1, (Below.refl _ _)⟩))
    (first | (go_at_call 64; refine (q2.out _).mono ?_; rintro e w' ⟨rfl, hb⟩) | (go_at_call 62; refine (q3.out _).mono ?_; rintro e w' ⟨rfl, hb⟩) | (go_at_call 63; refine (q4.out _).mono ?_; rintro e w' ⟨rfl, hb⟩))
  rename_i hH
  have bel := hH.2.2.2.2.2.2
  clear hH o0 o1 o2 o3 i0 i1 i2 i3 s0 s1
  have KA2 := hide_ (KA.out.later bel)
  have KC2 := hide_ (KC.out.later bel)
  have KZ2 := hide_ (KZ.out.later bel)
  have KB2 := hide_ (KB.out.trans (bel.mono KB.out.size))
  clear KA KC KZ KB bel hb
  obtain ⟨c0, c1, c2', c3, f0, f1, f2, f3⟩ := KZ2.out.four
  cases z
  · have Z := hide_ (KZ2.out.room.fill (.int .u64 0) (.int .u64 0) (.int .u64 0) (.int .u64 0))
    obtain ⟨g0, g1, g2, g3, -⟩ := Z.out.four
    go_wp2_with fail
    exact bodyPost_ret (v := .tuple #[.agg #[.int .u64 0, .int .u64 0, .int .u64 0, .int .u64 0], .bool false]) (by simp [results, Try.results41, go_sem, g0, g1, g2, g3]) rfl ⟨congrArg _ (HF'.out (by trivial)), below_fill KB2.out (by omega) _ _ _ _⟩
  · clear c0 c1 c2' c3 f0 f1 f2 f3
    go_wp2_with fail
    obtain ⟨o0, o1, o2, o3, -⟩ := KA2.out.four
    obtain ⟨i0, i1, i2, i3, -⟩ := KC2.out.four
    go_region_with (first | (go_at_call_of 55 (Value.int IntKind.u64 (a : Int)); refine (q5.out _).mono ?_; rintro e w5 ⟨rfl, b5⟩; have k5 : Below w'.heap.size w' w5 := (Below.refl _ _).drew.trans b5; obtain ⟨h0, h1, h2, h3, -⟩ := (KC2.out.later k5).four) | (go_at_call_of 55 (Value.int IntKind.u64 (a2 : Int)); refine (q6.out _).mono ?_; rintro e w6 ⟨rfl, b6⟩; have k6 : Below w'.heap.size w' w6 := k5.trans (b6.mono k5.size); obtain ⟨j0, j1, j2, j3, j4, j5, j6, j7⟩ := (KA2.out.later k6).four; have C6 := hide_ (((((KC2.out.later k6).far (.int .u64 (x1 : Int)) (f := w.heap.size) (o := 0) (by omega)).far (.int .u64 (x2 : Int)) (f := w.heap.size) (o := 1) (by omega)).far (.int .u64 (c : Int)) (f := w.heap.size) (o := 2) (by omega)).far (.int .u64 (d : Int)) (f := w.heap.size) (o := 3) (by omega)); obtain ⟨l0, l1, l2, l3, l4, l5, l6, l7⟩ := C6.out.four))
    all_goals
      have AW := (((KA2.out.later k6).room.fill (.int .u64 (x1 : Int)) (.int .u64 (x2 : Int)) (.int .u64 (c : Int)) (.int .u64 (d : Int))).far4 (f := w.heap.size + 1) (by omega) (.int .u64 (y1 : Int)) (.int .u64 (y2 : Int)) (.int .u64 (c2 : Int)) (.int .u64 (d2 : Int)))
      have CW := C6.out.room.fill (.int .u64 (y1 : Int)) (.int .u64 (y2 : Int)) (.int .u64 (c2 : Int)) (.int .u64 (d2 : Int))
      have ZW := ((KZ2.out.later k6).far4 (f := w.heap.size) (by omega) (.int .u64 (x1 : Int)) (.int .u64 (x2 : Int)) (.int .u64 (c : Int)) (.int .u64 (d : Int))).far4 (f := w.heap.size + 1) (by omega) (.int .u64 (y1 : Int)) (.int .u64 (y2 : Int)) (.int .u64 (c2 : Int)) (.int .u64 (d2 : Int))
      have BW := below_fill (below_fill (g := w.heap.size) (KB2.out.trans (k6.mono KB2.out.size)) (Nat.le_refl _) (.int .u64 (x1 : Int)) (.int .u64 (x2 : Int)) (.int .u64 (c : Int)) (.int .u64 (d : Int))) (g := w.heap.size + 1) (Nat.le_succ _) (.int .u64 (y1 : Int)) (.int .u64 (y2 : Int)) (.int .u64 (c2 : Int)) (.int .u64 (d2 : Int))
      clear C6 KA2 KC2 KZ2 KB2 j0 j1 j2 j3 j4 j5 j6 j7 l0 l1 l2 l3 l4 l5 l6 l7 h0 h1 h2 h3 b6 k6 k5 b5 o0 o1 o2 o3 i0 i1 i2 i3
      generalize ((((((((w6.setCell _ _).setCell _ _).setCell _ _).setCell _ _).setCell _ _).setCell _ _).setCell _ _).setCell _ _) = V at *
      obtain ⟨o0, o1, o2, o3, -⟩ := AW.four
      obtain ⟨i0, i1, i2, i3, -⟩ := CW.four
      have VZ := hide_ ZW
      have VB := hide_ BW
      clear AW CW ZW BW
      go_wp2_with fail
      go_region_held3 (fun w' => w'.cell? ⟨w.heap.size, 0, none⟩ = some (.int .u64 (x1 : Int)) ∧ w'.cell? ⟨w.heap.size, 1, none⟩ = some (.int .u64 (x2 : Int)) ∧ w'.cell? ⟨w.heap.size, 2, none⟩ = some (.int .u64 (c : Int)) ∧ w'.cell? ⟨w.heap.size, 3, none⟩ = some (.int .u64 (d : Int)) ∧ w'.cell? ⟨w.heap.size + 1, 0, none⟩ = some (.int .u64 (y1 : Int)) ∧ w'.cell? ⟨w.heap.size + 1, 1, none⟩ = some (.int .u64 (y2 : Int)) ∧ w'.cell? ⟨w.heap.size + 1, 2, none⟩ = some (.int .u64 (c2 : Int)) ∧ w'.cell? ⟨w.heap.size + 1, 3, none⟩ = some (.int .u64 (d2 : Int)) ∧ Room4 w' (w.heap.size + 1 + 1) 26 ∧ Below w.heap.size w w')
        (first | (with_reducible exact keepA8R (by assumption) (by assumption)) | (with_reducible exact keepA8R' (by assumption) (by omega) (by dsimp only; omega) (by dsimp only; omega) (by dsimp only; omega) (by dsimp only; omega) (by dsimp only; omega) (by dsimp only; omega) (by dsimp only; omega) (by dsimp only; omega)) | (exact ⟨o0, o1, o2, o3, i0, i1, i2, i3, VZ.out.room, VB.out.drew⟩) | (exact ⟨o0, o1, o2, o3, i0, i1, i2, i3, VZ.out.room, VB.out⟩))
        (first | (go_at_call_of 65 (Value.int IntKind.u64 (x1 : Int)); refine (q7.out _).mono ?_; rintro e w' ⟨rfl, hb⟩) | (go_at_call_of 65 (Value.int IntKind.u64 (c : Int)); refine (q8.out _).mono ?_; rintro e w4 ⟨rfl, b4⟩; have hS4 := keepA8R b4 (by assumption); obtain ⟨z0, z1, z2, z3, e0, e1, e2, e3, p0, p1, p2, p3⟩ := hS4.2.2.2.2.2.2.2.2.1.cells))
      have Z := hS4.2.2.2.2.2.2.2.2.1.fill (.int .u64 (r1 : Int)) (.int .u64 (r2 : Int)) (.int .u64 (r3 : Int)) (.int .u64 (r4 : Int))
      have bb := below_fill (g := w.heap.size + 1 + 1) hS4.2.2.2.2.2.2.2.2.2 (by omega) (.int .u64 (r1 : Int)) (.int .u64 (r2 : Int)) (.int .u64 (r3 : Int)) (.int .u64 (r4 : Int))
      obtain ⟨g0, g1, g2, g3, -⟩ := Z.four
      clear hS4 e0 e1 e2 e3 p0 p1 p2 p3
      rename_i hH
      clear hH
      go_wp2_with fail
      exact bodyPost_ret (v := .tuple #[.agg #[.int .u64 (r1 : Int), .int .u64 (r2 : Int), .int .u64 (r3 : Int), .int .u64 (r4 : Int)], .bool true]) (by simp [results, Try.results41, go_sem, g0, g1, g2, g3]) rfl ⟨congrArg _ (HT'.out trivial), bb⟩
end

end Go.Proofs.Ytbdbehdgpmfelaa
