import Derived.Test.YtmpfpolanndakaaHk
import Derived.Test.YtmpfpolanndakaaCg
import Derived.DataElems
namespace Go.Proofs.Ytmpfpolanndakaa
open Go Go.RowKit
set_option linter.unusedVariables false
set_option linter.unusedSimpArgs false

/-- where a field's bytes begin -/
def offk : Nat → Nat
  | 0 => 0
  | k + 1 => offk k + fsize (k : Int)
theorem off24 : offk 24 = 95 := by decide +kernel
theorem fsize_pos : ∀ j : Fin 24, 1 ≤ fsize ((j.val : Nat) : Int) := by decide +kernel
theorem offk_mono : ∀ (a d : Nat), offk a ≤ offk (a + d)
  | a, 0 => Nat.le_refl _
  | a, d + 1 => Nat.le_trans (offk_mono a d) (by show offk (a + d) ≤ offk (a + d) + _; omega)
theorem offk_le {k : Nat} (h : k ≤ 24) : offk k ≤ 95 := by
  have := offk_mono k (24 - k)
  rw [show k + (24 - k) = 24 by omega, off24] at this
  exact this
/-- a field out of bytes -/
def pj (b : List Int) (j : Nat) : Nat × Nat := (gx (b.drop (offk j)) (fsize (j : Int) : Nat), gy (b.drop (offk j)) (fsize (j : Int) : Nat))
def PK (b : List Int) (k : Nat) : List (Nat × Nat) := (List.range 24).map fun j => if j < k then pj b j else (0, 0)
theorem PK_len (b : List Int) (k : Nat) : (PK b k).length = 24 := by simp [PK]
theorem PK_zero (b : List Int) : PK b 0 = z24 := by
  simp only [PK, Nat.not_lt_zero, if_false]
  rfl
theorem PK_at (b : List Int) (k : Nat) (h : k < 24) : (PK b k)[k]? = some (0, 0) := by
  simp [PK, h]
theorem PK_step (b : List Int) (k : Nat) (h : k < 24) : (PK b k).set k (pj b k) = PK b (k + 1) := by
  apply List.ext_getElem?
  intro i
  rw [List.getElem?_set]
  by_cases e : k = i
  · subst e
    simp [PK, h]
  · rw [if_neg e]
    simp only [PK, List.getElem?_map]
    by_cases hi : i < 24
    · have : (i < k) = (i < k + 1) := by apply propext; omega
      simp [hi, this]
    · rw [List.getElem?_eq_none (by simp; omega)]
      simp
theorem gv_lt (b : List Int) (s : Int) (hb : isB b) : gv b s < 340282366920938463463374607431768211456 := by
  unfold gv
  split
  · rename_i h
    obtain ⟨h1, h2, h3⟩ := gok_in h
    have := bev_lt (b.take s.toNat) (fun z hz => hb z (List.mem_of_mem_take hz))
    have hl : (b.take s.toNat).length ≤ 16 := by simp; omega
    have h16 : 256 ^ (b.take s.toNat).length ≤ 256 ^ 16 := Nat.pow_le_pow_right (by decide) hl
    have e : (256 : Nat) ^ 16 = 340282366920938463463374607431768211456 := by decide
    omega
  · decide
theorem pj_lt (b : List Int) (hb : isB b) (j : Nat) : (pj b j).1 < 18446744073709551616 ∧ (pj b j).2 < 18446744073709551616 := by
  have := gv_lt (b.drop (offk j)) (fsize (j : Int) : Nat) (fun z hz => hb z (List.mem_of_mem_drop hz))
  unfold pj gx gy
  constructor
  · show _ / _ < _
    omega
  · exact Nat.mod_lt _ (by decide)
theorem PK_isH (b : List Int) (hb : isB b) (k : Nat) : isH (PK b k) := by
  refine ⟨PK_len b k, fun p hp => ?_⟩
  obtain ⟨j, _, rfl⟩ := List.mem_map.1 hp
  split
  · exact pj_lt b hb j
  · exact ⟨by decide, by decide⟩
def pok (b : List Int) : Bool := decide (b.length = 95) && decide (clip (PK b 24) = PK b 24)
def pr (b : List Int) : List (Nat × Nat) := if pok b then PK b 24 else z24
def pe (b : List Int) : Int := if pok b then 0 else 4
theorem pr_no {b : List Int} (h : ¬ b.length = 95) : pr b = z24 ∧ pe b = 4 := by simp [pr, pe, pok, h]
theorem pr_len (b : List Int) : (pr b).length = 24 := by
  unfold pr; split
  · exact PK_len b 24
  · exact z24_len
theorem gok_k (b : List Int) (k : Nat) (hk : k < 24) (h : offk k ≤ b.length) : gok (b.drop (offk k)) (fsize (k : Int) : Nat) = decide (offk (k + 1) ≤ b.length) := by
  have h1 := fsize_le (k : Int)
  have eo : offk (k + 1) = offk k + fsize (k : Int) := rfl
  rw [Bool.eq_iff_iff]
  simp only [gok, List.length_drop, Bool.and_eq_true, decide_eq_true_eq]
  omega

theorem u51 : Try.prog.underlying 51 = some (.slice (Try.prog.elem 51)) := by kernel_rfl
theorem sz51 (w : World) : (sizeOf (Try.prog.elem 51)).run Try.prog w = .ok 1 w := by
  have e : Try.prog.elem 51 = 5 := by kernel_rfl
  rw [e]
  obtain ⟨i0, hi0, hz0, hz1, hz2⟩ := info_parts info5
  simp [sizeOf, typeInfo, hi0, hz1]
theorem bytes_slice {w : World} {ao : Option Addr} {n cap : Nat} {l : List Int} (h : Bytes w (.slice ao n cap) l) (s : Nat) (hs : s ≤ l.length) :
    ∃ ao', (∀ wx, (Instr.sliceAt 51 (.slice ao n cap) (some (.int .i64 (s : Int))) none none).run Try.prog wx = .ok (.slice ao' (n - s) (cap - s)) wx) ∧
      (∀ wx, (Instr.slice 51 (.slice ao n cap) (some (.int .i64 (s : Int))) none none).run Try.prog wx = .ok (.slice ao' (n - s) (cap - s)) wx) ∧ Bytes w (.slice ao' (n - s) (cap - s)) (l.drop s) := by
  obtain ⟨a, c, e, h1, h2, h3, h4, h5⟩ := h
  cases e
  have r2 : ∀ wx, (Instr.slice 51 (.slice ao l.length cap) (some (.int .i64 (s : Int))) none none).run Try.prog wx = .ok (.slice (if cap = s then ao else ao.map (·.add s)) (l.length - s) (cap - s)) wx := by
    intro wx
    rw [run_slice_l wx 51 ao l.length cap u51 .i64 (s : Int) (by omega) (by omega), sz51]
    simp [sliced]
  refine ⟨if cap = s then ao else ao.map (·.add s), fun wx => ?_, r2, ?_⟩
  · rw [run_sliceAt_slice wx 51 _ _ _ _ u51]; exact r2 wx
  · refine ⟨_, cap - s, by rw [List.length_drop], by simp; omega, by omega, fun z hz => h3 z (List.mem_of_mem_drop hz), fun hn => ?_, fun ad he j z hz => ?_⟩
    · split at hn
      · omega
      · cases ao with
        | none => have := h4 rfl; omega
        | some a => cases hn
    · rw [List.getElem?_drop] at hz
      split at he
      · rename_i hc
        have : s + j < l.length := (List.getElem?_eq_some_iff.1 hz).1
        omega
      · cases ao with
        | none => cases he
        | some a =>
          simp at he
          subst he
          rw [Addr.add_add]
          exact h5 a rfl _ _ hz
/-- a header and a number are handed back -/
theorem results_H2 {fn : Func} {p q : Tmp} (h : fn.results = #[.cell p 42, .tmp q]) (tmps : Array Value) (w : World) (g : Nat) (l : List (Nat × Nat)) (hl : l.length = 24) (v : Value) (hp : tmps.getD p undef = .pointer (some ⟨g, 0, none⟩)) (hq : tmps.getD q undef = v) (hg : HB w g l) :
    (results fn tmps).run Try.prog w = .ok (.tuple #[hv l, v]) w := by
  have hp' : tmps[p]?.getD undef = .pointer (some ⟨g, 0, none⟩) := by simpa using hp
  have hq' : tmps[q]?.getD undef = v := by simpa using hq
  have := run_loadVar_row (P := Try.prog) w g 42 42 (wdc l).toArray (0, 0) _ hg Try.underlying42 rfl (szH hl)
  simp [results, h, hp', hq', asAddr, this, hv]

end Go.Proofs.Ytmpfpolanndakaa
