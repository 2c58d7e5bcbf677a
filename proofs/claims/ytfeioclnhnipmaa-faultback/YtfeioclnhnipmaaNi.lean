import Derived.Test.YtfeioclnhnipmaaProg
import Derived.Test.YtfeioclnhnipmaaNc
import Derived.Ground.NamesProg
import Derived.Shelf.Lay
import Derived.Shelf.LaySoft
import Derived.Shelf.Bytes.SlEqualAll
namespace Go.Proofs
open Go.Shelf
shelf_lay Lays.nb115 Nm 115 at Try as Try.lays115
end Go.Proofs
namespace Go.Proofs.Ytfeioclnhnipmaa
open Go Go.RowKit
set_option linter.unusedVariables false
set_option linter.unusedSimpArgs false

theorem bytesIn_of {w : World} {a : Option Addr} {n cap : Nat} {l : List Int} (h : Bytes w (.slice a n cap) l) : Lib.BytesIn w a n l := fun hn => by
  obtain ⟨h1, -, -, hat⟩ := Bytes.at h
  obtain ⟨z, hz⟩ : ∃ z, l[0]? = some z := ⟨_, List.getElem?_eq_getElem (by omega)⟩
  obtain ⟨b, off, rfl, -⟩ := hat 0 z hz
  refine ⟨b, off, rfl, fun i hi => ?_⟩
  obtain ⟨y, hy⟩ : ∃ y, l[i]? = some y := ⟨_, List.getElem?_eq_getElem (by omega)⟩
  obtain ⟨b', off', e, hc⟩ := hat i y hy
  cases e
  rw [hc]
  simp [List.getD, hy]
theorem bytesOf_back {l : List Int} (h : isB l) : (Lib.bytesOf l).map (fun u => (u.toNat : Int)) = l := by
  unfold Lib.bytesOf
  rw [List.map_map]
  conv => rhs; rw [← List.map_id l]
  apply List.map_congr_left
  intro z hz
  have := h z hz
  simp [UInt8.toNat_ofNat]
  omega
theorem bytesOf_eq {l m : List Int} (hl : isB l) (hm : isB m) : (Lib.bytesOf l == Lib.bytesOf m) = (l == m) := by
  rw [Bool.eq_iff_iff, beq_iff_eq, beq_iff_eq]
  constructor
  · intro h
    rw [← bytesOf_back hl, ← bytesOf_back hm, h]
  · rintro rfl; rfl
theorem bequal_any (v u : Value) (l m : List Int) (w : World) (h : Bytes w v l) (k : Bytes w u m) :
    Calls Try.prog 7 #[v, u] w fun e w' => e = .returned (.bool (l == m)) ∧ w' = w := by
  obtain ⟨a, c, rfl⟩ := h.short
  obtain ⟨a', c', rfl⟩ := k.short
  rw [← bytesOf_eq h.isB_ k.isB_]
  exact Any.bytes_Equal_all Try.lays115 a a' l.length c m.length c' l m w rfl rfl (bytesIn_of h) (bytesIn_of k)
end Go.Proofs.Ytfeioclnhnipmaa
