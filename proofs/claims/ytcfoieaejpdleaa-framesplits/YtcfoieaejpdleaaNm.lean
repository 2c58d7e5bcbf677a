import Derived.Test.YtcfoieaejpdleaaProg
import Derived.Test.YtcfoieaejpdleaaNg
import Derived.Test.YtcfoieaejpdleaaNi
import Derived.Ground.SlbNamesProg
import Derived.Shelf.Lay
import Derived.Shelf.LaySoft
import Derived.Shelf.Bytes.SlJoin
import Derived.Deep.AppendSrc
import Derived.Lib.LazyBuf
import Derived.Laws.IdiomCopy
namespace Go.Proofs
open Go.Shelf
shelf_lay SlLaysJ.n14 Slb 14 at Try as Try.laysJ14
end Go.Proofs
namespace Go.Proofs.Ytcfoieaejpdleaa
open Go Go.RowKit
set_option linter.unusedVariables false
set_option linter.unusedSimpArgs false

/-- bytes of one's own that may be appended to -/
def JB (W : World) (B : Nat) (v : Value) (l : List Int) : Prop := ∃ g cap, v = .slice (some ⟨g, 0, none⟩) l.length cap ∧ B ≤ g ∧ l.length ≤ cap ∧ cap ≤ maxLen ∧ isB l ∧ (∀ j z, l[j]? = some z → W.cell? ⟨g, j, none⟩ = some (.int .u8 z)) ∧ ∀ j, j < cap → (W.cell? ⟨g, j, none⟩).isSome = true ∧ W.frozen? ⟨g, j, none⟩ = false
theorem JB.later {W W' : World} {B : Nat} {v : Value} {l : List Int} (h : JB W B v l) (hb : Below W.heap.size W W') : JB W' B v l := by
  obtain ⟨g, cap, rfl, h1, h2, h3, h4, h5, h6⟩ := h
  refine ⟨g, cap, rfl, h1, h2, h3, h4, fun j z hz => cell_later hb (h5 j z hz), fun j hj => ?_⟩
  obtain ⟨k1, k2⟩ := h6 j hj
  obtain ⟨u, hu⟩ := Option.isSome_iff_exists.1 k1
  have hg : g < W.heap.size := by
    unfold World.cell? at hu
    simp only at hu
    split at hu
    · rename_i cs e fz hh
      exact (Array.getElem?_eq_some_iff.1 hh).1
    · cases hu
  exact ⟨by rw [cell_later hb hu]; rfl, (World.frozen?_of_block (hb.block g hg)).trans k2⟩
theorem JB.bytes {W : World} {B : Nat} {v : Value} {l : List Int} (h : JB W B v l) : Bytes W v l := by
  obtain ⟨g, cap, rfl, h1, h2, h3, h4, h5, h6⟩ := h
  refine ⟨_, cap, rfl, h2, h3, h4, (fun e => by cases e), fun ad e j z hz => ?_⟩
  cases e
  rw [Addr.add_lit, Nat.zero_add]
  exact h5 j z hz
theorem jb_of_fresh {W : World} {B : Nat} {v : Value} {l : List Int} (hl : isB l) (h : Lib.FreshBytes B W v (Lib.bytesOf l)) : JB W B v l := by
  obtain ⟨g, cap, zs, rfl, h1, h2, h3, h4, h5, h6, h7, h8⟩ := h
  have hlen : (Lib.bytesOf l).length = l.length := Lib.bytesOf_length l
  rw [hlen] at h2 h6 ⊢
  have hz : isB (zs.take l.length) := fun z hz => by have := h5 z (List.mem_of_mem_take hz); omega
  have e : zs.take l.length = l := by rw [← bytesOf_back hz, h6, bytesOf_back hl]
  refine ⟨g, cap, rfl, h1, h2, h3, hl, fun j z hj => ?_, fun j hj => ⟨by rw [h7 j hj]; rfl, h8 j hj⟩⟩
  have hj1 := (List.getElem?_eq_some_iff.1 hj).1
  rw [h7 j (by omega)]
  have e2 : zs[j]? = some z := by rw [← e, List.getElem?_take, if_pos hj1] at hj; exact hj
  simp [List.getD, e2]
theorem join_flat : ∀ ls : List (List UInt8), Lib.join ls [] = ls.flatten := by
  intro ls
  cases ls with
  | nil => rfl
  | cons x r => rw [Lib.join_cons]; simp [Lib.joinTail]
theorem bytesOf_flat (M : List (List Int)) : (M.map Lib.bytesOf).flatten = Lib.bytesOf M.flatten := by
  unfold Lib.bytesOf
  rw [List.map_flatten]
theorem lens_flat (M : List (List Int)) : Lib.lens (M.map Lib.bytesOf) = M.flatten.length := by
  unfold Lib.lens
  rw [List.length_flatten, List.map_map]
  congr 1
  apply List.map_congr_left
  intro x _
  exact Lib.bytesOf_length x
theorem holds_of {W : World} {v : Value} {x : List Int} (h : Bytes W v x) : Lib.HoldsBytes W v (Lib.bytesOf x) := by
  obtain ⟨a, cap, rfl, h1, h2, h3, h4, h5⟩ := h
  refine ⟨a, cap, by rw [Lib.bytesOf_length], fun e => ?_, fun ad e i y hy => ?_⟩
  · have := h4 e
    have hx : x = [] := List.eq_nil_of_length_eq_zero (by omega)
    rw [hx]; rfl
  · unfold Lib.bytesOf at hy
    rw [List.getElem?_map] at hy
    cases hx : x[i]? with
    | none => rw [hx] at hy; cases hy
    | some z =>
      rw [hx] at hy
      cases hy
      rw [h5 ad e i z hx]
      have := h3 z (List.mem_of_getElem? hx)
      simp [UInt8.toNat_ofNat]
      omega
set_option maxRecDepth 100000 in
set_option maxHeartbeats 8000000 in
theorem join_any (u : Value) (M : List (List Int)) (W : World) (hR : RowsAt W u M) (hpos : ∀ x ∈ M, 0 < x.length) (hl : M.flatten.length ≤ 100000000000) (hn : M.length ≤ 100000000000) (hu : M = [] → ∃ c, u = .slice none 0 c ∨ ∃ a, u = .slice (some a) 0 c) :
    Calls Try.prog 16 #[u, .slice none 0 0] W fun e w' => ∃ v, e = .returned v ∧ JB w' W.heap.size v M.flatten ∧ Below W.heap.size W w' := by
  obtain ⟨vs, o, hlv, hp⟩ := hR
  match hM : M with
  | [] =>
    obtain ⟨c, hc⟩ := hu rfl
    have h0 : ∃ p, u = .slice p 0 c := by rcases hc with h | ⟨a, h⟩ <;> exact ⟨_, h⟩
    obtain ⟨p, rfl⟩ := h0
    refine (Any.bytes_Join_none Try.laysJ14 p c (.slice none 0 0) W).mono ?_
    rintro e w' ⟨rfl, rfl⟩
    exact ⟨_, rfl, ⟨W.heap.size, 0, rfl, Nat.le_refl _, Nat.le_refl _, Nat.zero_le _, (fun z hz => by cases hz), (fun j z hz => by simp at hz), fun j hj => by omega⟩, below1 _ _⟩
  | [x] =>
    have hx0 := hpos x (by simp)
    obtain ⟨g, c, rfl, h1, h2⟩ := own_form o (Nat.succ_pos 0)
    match vs, hlv with
    | [v0], _ =>
      obtain ⟨hb, a, c', rfl⟩ := hp 0 v0 x rfl rfl
      have hcell := o.cells rfl 0 _ rfl
      rw [Addr.add_lit] at hcell
      obtain ⟨-, -, hi, hat⟩ := Bytes.at hb
      obtain ⟨z, hz⟩ : ∃ z, x[0]? = some z := ⟨_, List.getElem?_eq_getElem hx0⟩
      obtain ⟨b, off, rfl, -⟩ := hat 0 z hz
      have hh := holds_of hb
      obtain ⟨p2, cap2, e2, -, hc2⟩ := hh
      have hlen : (Lib.bytesOf x).length = x.length := Lib.bytesOf_length x
      rw [hlen] at e2
      cases e2
      refine (Any.bytes_Join_one Try.laysJ14 g 0 c ⟨b, off, none⟩ c' (Lib.bytesOf x) (.slice none 0 0) W (by rw [hlen]; simpa using hcell) (hc2 _ rfl) (by omega) (by simp at hl; omega)).mono ?_
      rintro e w' ⟨v, rfl, hf, hB⟩
      exact ⟨v, rfl, by simpa using jb_of_fresh hi hf, hB⟩
  | x :: y :: M1 =>
    have hall : isB (x :: y :: M1).flatten := by
      intro z hz
      obtain ⟨l, hl1, hl2⟩ := List.mem_flatten.1 hz
      obtain ⟨i, hi⟩ := List.mem_iff_getElem?.1 hl1
      have hiv := (List.getElem?_eq_some_iff.1 hi).1
      obtain ⟨v, hv⟩ : ∃ v, vs[i]? = some v := ⟨_, List.getElem?_eq_getElem (by omega)⟩
      exact (hp i v l hv hi).1.isB_ z hl2
    obtain ⟨g, c, rfl, h1, h2⟩ := own_form o (by simp)
    have hPA : Lib.PartsAt W ⟨g, 0, none⟩ vs ((x :: y :: M1).map Lib.bytesOf) := by
      refine ⟨by rw [hlv, List.length_map], fun i v hv => o.cells rfl i _ hv, fun i v l hv hl => ?_⟩
      rw [List.getElem?_map] at hl
      cases hx : (x :: y :: M1)[i]? with
      | none => rw [hx] at hl; cases hl
      | some w =>
        rw [hx] at hl
        cases hl
        exact holds_of (hp i v w hv hx).1
    refine (Any.bytes_Join_many Try.laysJ14 g 0 (x :: y :: M1).length c vs ((x :: y :: M1).map Lib.bytesOf) (.slice none 0 0) [] W (by rw [List.length_map]) (by simp) hPA h1 ⟨none, 0, rfl, fun _ => rfl, fun a e => by cases e⟩ (by omega) (by rw [lens_flat]; simp at hl ⊢; omega)).mono ?_
    rintro e w' ⟨v, rfl, hf, hB⟩
    rw [join_flat, bytesOf_flat] at hf
    exact ⟨v, rfl, jb_of_fresh hall hf, hB⟩
end Go.Proofs.Ytcfoieaejpdleaa
