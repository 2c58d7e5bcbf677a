import Derived.Test.YtbdbehdgpmfelaaXh
import Derived.Test.YtbdbehdgpmfelaaXj
import Derived.Test.YtbdbehdgpmfelaaXf
namespace Go.Proofs.Ytbdbehdgpmfelaa
open Go Go.RowKit
set_option linter.unusedVariables false
set_option linter.unusedSimpArgs false

/-- a tern in which a bit counts -/
def fixq (q : Q4) (i : Nat) (on : Bool) : Q4 := (fixv (q.1 &&& q.2.2.1) (bh i) on, fixv (q.2.1 &&& q.2.2.2) (bl i) on, q.2.2.1 ||| bh i, q.2.2.2 ||| bl i)
/-- the bits that count in q, but not in p, falling -/
def bitsq (p q : Q4) : List Nat := fall (hasb (andn q.2.2.1 p.2.2.1) (andn q.2.2.2 p.2.2.2)) 128
def onq (q : Q4) (i : Nat) : Bool := hasb q.1 q.2.1 i
def putq (l : List Q4) (f i : Nat) (on : Bool) : List Q4 := l.set f (fixq (cq l f) i on)
/-- what is left behind the bits of a field -/
def bitsL (r : Q4) (f : Nat) : List Nat → List Q4 → List Q4
  | [], l => l
  | i :: is, l => bitsL r f is (putq l f i (onq r i))
/-- the parts of the bits of a field -/
def bitsP (r : Q4) (f : Nat) : List Nat → List Q4 → List (List Q4)
  | [], _ => []
  | i :: is, l => putq l f i (!onq r i) :: bitsP r f is (putq l f i (onq r i))
/-- the parts of the fields -/
def fieldsP (a b : List Q4) : List Nat → List Q4 → List (List Q4)
  | [], _ => []
  | f :: fs, l => bitsP (cq b f) f (bitsq (cq a f) (cq b f)) l ++ fieldsP a b fs (bitsL (cq b f) f (bitsq (cq a f) (cq b f)) l)
def partsC (a b : List Q4) : List (List Q4) := match okC a b with | true => fieldsP a b (List.range' 0 24) (cleanC a) | false => [cleanC a]
theorem partsC_ok {a b : List Q4} (h : okC a b = true) : partsC a b = fieldsP a b (List.range' 0 24) (cleanC a) := by unfold partsC; rw [h]
theorem partsC_no {a b : List Q4} (h : okC a b = false) : partsC a b = [cleanC a] := by unfold partsC; rw [h]

theorem isC_set {l : List Q4} (hl : isC l) (f : Nat) (q : Q4) (h : q.1 < 18446744073709551616 ∧ q.2.1 < 18446744073709551616 ∧ q.2.2.1 < 18446744073709551616 ∧ q.2.2.2 < 18446744073709551616) : isC (l.set f q) := by
  refine ⟨by simp [hl.1], fun p hp => ?_⟩
  rcases List.mem_or_eq_of_mem_set hp with hp | hp
  · exact hl.2 p hp
  · subst hp; exact h
theorem fixq_lt (q : Q4) (i : Nat) (on : Bool) (hi : i < 128) (h : q.1 < 18446744073709551616 ∧ q.2.1 < 18446744073709551616 ∧ q.2.2.1 < 18446744073709551616 ∧ q.2.2.2 < 18446744073709551616) :
    (fixq q i on).1 < 18446744073709551616 ∧ (fixq q i on).2.1 < 18446744073709551616 ∧ (fixq q i on).2.2.1 < 18446744073709551616 ∧ (fixq q i on).2.2.2 < 18446744073709551616 :=
  ⟨fixv_lt _ _ _ (and_lt _ _ h.1) (bh_lt i hi), fixv_lt _ _ _ (and_lt _ _ h.2.1) (bl_lt i), or_lt _ _ h.2.2.1 (bh_lt i hi), or_lt _ _ h.2.2.2 (bl_lt i)⟩
theorem putq_isC {l : List Q4} (hl : isC l) {f i : Nat} (hf : f < 24) (hi : i < 128) (on : Bool) : isC (putq l f i on) :=
  isC_set hl f _ (fixq_lt _ i on hi (cq_lt hl hf))
theorem bitsq_lt (p q : Q4) : ∀ i ∈ bitsq p q, i < 128 := fun i hi => ((fall_mem _ 128 i).1 hi).1
theorem bitsL_isC (r : Q4) (f : Nat) (hf : f < 24) : ∀ (is : List Nat) (l : List Q4), (∀ i ∈ is, i < 128) → isC l → isC (bitsL r f is l)
  | [], l, _, hl => hl
  | i :: is, l, h, hl => bitsL_isC r f hf is _ (fun j hj => h j (List.mem_cons_of_mem _ hj)) (putq_isC hl hf (h i List.mem_cons_self) _)
theorem bitsP_isC (r : Q4) (f : Nat) (hf : f < 24) : ∀ (is : List Nat) (l : List Q4), (∀ i ∈ is, i < 128) → isC l → ∀ x ∈ bitsP r f is l, isC x
  | [], l, _, hl => fun x hx => by cases hx
  | i :: is, l, h, hl => fun x hx => by
    rcases List.mem_cons.1 hx with rfl | hx
    · exact putq_isC hl hf (h i List.mem_cons_self) _
    · exact bitsP_isC r f hf is _ (fun j hj => h j (List.mem_cons_of_mem _ hj)) (putq_isC hl hf (h i List.mem_cons_self) _) x hx
theorem fieldsP_isC (a b : List Q4) : ∀ (fs : List Nat) (l : List Q4), (∀ f ∈ fs, f < 24) → isC l → ∀ x ∈ fieldsP a b fs l, isC x
  | [], l, _, hl => fun x hx => by cases hx
  | f :: fs, l, h, hl => fun x hx => by
    have hf := h f List.mem_cons_self
    rcases List.mem_append.1 hx with hx | hx
    · exact bitsP_isC _ f hf _ l (bitsq_lt _ _) hl x hx
    · exact fieldsP_isC a b fs _ (fun j hj => h j (List.mem_cons_of_mem _ hj)) (bitsL_isC _ f hf _ l (bitsq_lt _ _) hl) x hx
theorem cleanC_isC (a : List Q4) (ha : isC a) : isC (cleanC a) :=
  isC_map _ (fun k hk => ⟨and_lt _ _ (cq_lt ha hk).1, and_lt _ _ (cq_lt ha hk).2.1, (cq_lt ha hk).2.2.1, (cq_lt ha hk).2.2.2⟩)
theorem partsC_isC (a b : List Q4) (ha : isC a) : ∀ x ∈ partsC a b, isC x := by
  unfold partsC
  split
  · exact fieldsP_isC a b _ _ (fun f hf => by simp at hf; omega) (cleanC_isC a ha)
  · intro x hx
    rw [List.mem_singleton.1 hx]; exact cleanC_isC a ha
theorem bitsP_len (r : Q4) (f : Nat) : ∀ (is : List Nat) (l : List Q4), (bitsP r f is l).length = is.length
  | [], _ => rfl
  | i :: is, l => by simp [bitsP, bitsP_len r f is]
theorem fieldsP_len (a b : List Q4) : ∀ (fs : List Nat) (l : List Q4), (fieldsP a b fs l).length ≤ fs.length * 128
  | [], _ => Nat.zero_le _
  | f :: fs, l => by
    have := fieldsP_len a b fs (bitsL (cq b f) f (bitsq (cq a f) (cq b f)) l)
    have h2 : (bitsq (cq a f) (cq b f)).length ≤ 128 := fall_len _ 128
    simp only [fieldsP, List.length_append, bitsP_len, List.length_cons]
    omega
theorem partsC_len (a b : List Q4) : (partsC a b).length ≤ 3072 := by
  unfold partsC
  split
  · have := fieldsP_len a b (List.range' 0 24) (cleanC a)
    simp at this; exact this
  · simp
theorem drop_cons_at {α : Type} {l : List α} {j : Nat} {x : α} (h : l[j]? = some x) : l.drop j = x :: l.drop (j + 1) := by
  obtain ⟨hj, e⟩ := List.getElem?_eq_some_iff.1 h
  rw [List.drop_eq_getElem_cons hj, e]

end Go.Proofs.Ytbdbehdgpmfelaa
