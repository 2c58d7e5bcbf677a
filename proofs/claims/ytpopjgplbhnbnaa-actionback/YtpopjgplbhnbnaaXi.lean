import Derived.Test.YtpopjgplbhnbnaaXe
import Derived.Test.YtpopjgplbhnbnaaXg
import Derived.Below
import Derived.BigQuiet
import Derived.BigRegion
import Derived.ChangeAlike
import Derived.ChangeKeysEq
import Derived.ChangeSame
import Derived.DataElems
import Derived.Deep.MidRow
import Derived.Deep.QuietTactic
import Derived.Deep.RegionHeld
import Derived.Deep.RegionHeld3
import Derived.Deep.RegionLaw
import Derived.Deep.RegionLawGrows
import Derived.Deep.RegionWith
import Derived.Deep.WholeRow
import Derived.Great.BuildSlice
import Derived.Handy
import Derived.Laws.AppendOwn
import Derived.Laws.AppendOwnNone
import Derived.Laws.BitsAllLaws
import Derived.Laws.BitsLemmas
import Derived.Laws.CopyOwn
import Derived.Laws.OwnMore
import Derived.Laws.Rows
import Derived.Laws.StructEq
import Derived.Laws.Tables
import Derived.Lib.BitFns
import Derived.Lib.SmallJoins
import Derived.OpenShut
import Derived.ProofKit
import Derived.RegionTactic
import Derived.WalkKit
import Derived.WalkLawsBesides
import Derived.WalkSmall
import Derived.WalkSpells
import Derived.WideShapes
import Derived.Test.YtpopjgplbhnbnaaProg
import Derived.Test.YtpopjgplbhnbnaaXa
import Derived.Test.YtpopjgplbhnbnaaXc
import Derived.Test.YtpopjgplbhnbnaaXf
import Derived.Test.YtpopjgplbhnbnaaXh
import Derived.Test.YtpopjgplbhnbnaaXd
namespace Go.Proofs.Ytpopjgplbhnbnaa
section
open Go Go.RowKit
set_option linter.unusedVariables false
set_option linter.unusedSimpArgs false

/-- a field's bytes -/
def fby (l : List (Nat × Nat)) (j : Nat) : List Int := match l[j]? with
  | some p => wtail p.1 p.2 (fsize (j : Int) : Nat)
  | none => []

/-- the bytes of the first k fields -/
def putK (l : List (Nat × Nat)) : Nat → List Int
  | 0 => []
  | k + 1 => putK l k ++ fby l k
end

section
open Go Go.RowKit
set_option linter.unusedVariables false
set_option linter.unusedSimpArgs false

/-- where a field's bytes begin -/
def offk : Nat → Nat
  | 0 => 0
  | k + 1 => offk k + fsize (k : Int)

theorem off24 : offk 24 = 95 := by decide +kernel

theorem fsize_pos : ∀ j : Fin 24, 1 ≤ fsize ((j.val : Nat) : Int) := by decide +kernel

theorem offk_mono : ∀ (a d : Nat), offk a ≤ offk (a + d)
  | a, 0 => Nat.le_refl _
  | a, d + 1 => Nat.le_trans (offk_mono a d) (by show offk (a + d) ≤ offk (a + d) + _; omega)

theorem offk_le {k : Nat} (h : k ≤ 24) : offk k ≤ 95 := by
  have := offk_mono k (24 - k)
  rw [show k + (24 - k) = 24 by omega, off24] at this
  exact this

/-- a field out of bytes -/
def pj (b : List Int) (j : Nat) : Nat × Nat := (gx (b.drop (offk j)) (fsize (j : Int) : Nat), gy (b.drop (offk j)) (fsize (j : Int) : Nat))

def PK (b : List Int) (k : Nat) : List (Nat × Nat) := (List.range 24).map fun j => if j < k then pj b j else (0, 0)

theorem PK_len (b : List Int) (k : Nat) : (PK b k).length = 24 := by simp [PK]

theorem PK_zero (b : List Int) : PK b 0 = z24 := by
  simp only [PK, Nat.not_lt_zero, if_false]
  rfl

theorem PK_at (b : List Int) (k : Nat) (h : k < 24) : (PK b k)[k]? = some (0, 0) := by
  simp [PK, h]

theorem PK_step (b : List Int) (k : Nat) (h : k < 24) : (PK b k).set k (pj b k) = PK b (k + 1) := by
  apply List.ext_getElem?
  intro i
  rw [List.getElem?_set]
  by_cases e : k = i
  · subst e
    simp [PK, h]
  · rw [if_neg e]
    simp only [PK, List.getElem?_map]
    by_cases hi : i < 24
    · have : (i < k) = (i < k + 1) := by apply propext; omega
      simp [hi, this]
    · rw [List.getElem?_eq_none (by simp; omega)]
      simp

theorem gv_lt (b : List Int) (s : Int) (hb : isB b) : gv b s < 340282366920938463463374607431768211456 := by
  unfold gv
  split
  · rename_i h
    obtain ⟨h1, h2, h3⟩ := gok_in h
    have := bev_lt (b.take s.toNat) (fun z hz => hb z (List.mem_of_mem_take hz))
    have hl : (b.take s.toNat).length ≤ 16 := by simp; omega
    have h16 : 256 ^ (b.take s.toNat).length ≤ 256 ^ 16 := Nat.pow_le_pow_right (by decide) hl
    have e : (256 : Nat) ^ 16 = 340282366920938463463374607431768211456 := by decide
    omega
  · decide

theorem pj_lt (b : List Int) (hb : isB b) (j : Nat) : (pj b j).1 < 18446744073709551616 ∧ (pj b j).2 < 18446744073709551616 := by
  have := gv_lt (b.drop (offk j)) (fsize (j : Int) : Nat) (fun z hz => hb z (List.mem_of_mem_drop hz))
  unfold pj gx gy
  constructor
  · show _ / _ < _
    omega
  · exact Nat.mod_lt _ (by decide)

theorem PK_isH (b : List Int) (hb : isB b) (k : Nat) : isH (PK b k) := by
  refine ⟨PK_len b k, fun p hp => ?_⟩
  obtain ⟨j, _, rfl⟩ := List.mem_map.1 hp
  split
  · exact pj_lt b hb j
  · exact ⟨by decide, by decide⟩

def pok (b : List Int) : Bool := decide (b.length = 95) && decide (clip (PK b 24) = PK b 24)

def pr (b : List Int) : List (Nat × Nat) := if pok b then PK b 24 else z24

def pe (b : List Int) : Int := if pok b then 0 else 4

theorem pr_no {b : List Int} (h : ¬ b.length = 95) : pr b = z24 ∧ pe b = 4 := by simp [pr, pe, pok, h]

theorem pr_len (b : List Int) : (pr b).length = 24 := by
  unfold pr; split
  · exact PK_len b 24
  · exact z24_len

theorem gok_k (b : List Int) (k : Nat) (hk : k < 24) (h : offk k ≤ b.length) : gok (b.drop (offk k)) (fsize (k : Int) : Nat) = decide (offk (k + 1) ≤ b.length) := by
  have h1 := fsize_le (k : Int)
  have eo : offk (k + 1) = offk k + fsize (k : Int) := rfl
  rw [Bool.eq_iff_iff]
  simp only [gok, List.length_drop, Bool.and_eq_true, decide_eq_true_eq]
  omega

theorem u51 : Try.prog.underlying 29 = some (.slice (Try.prog.elem 29)) := by kernel_rfl

theorem sz51 (w : World) : (sizeOf (Try.prog.elem 29)).run Try.prog w = .ok 1 w := by
  have e : Try.prog.elem 29 = 5 := by kernel_rfl
  rw [e]
  obtain ⟨i0, hi0, hz0, hz1, hz2⟩ := info_parts info5
  simp [sizeOf, typeInfo, hi0, hz1]

theorem bytes_slice {w : World} {ao : Option Addr} {n cap : Nat} {l : List Int} (h : Bytes w (.slice ao n cap) l) (s : Nat) (hs : s ≤ l.length) :
    ∃ ao', (∀ wx, (Instr.sliceAt 29 (.slice ao n cap) (some (.int .i64 (s : Int))) none none).run Try.prog wx = .ok (.slice ao' (n - s) (cap - s)) wx) ∧
      (∀ wx, (Instr.slice 29 (.slice ao n cap) (some (.int .i64 (s : Int))) none none).run Try.prog wx = .ok (.slice ao' (n - s) (cap - s)) wx) ∧ Bytes w (.slice ao' (n - s) (cap - s)) (l.drop s) := by
  obtain ⟨a, c, e, h1, h2, h3, h4, h5⟩ := h
  cases e
  have r2 : ∀ wx, (Instr.slice 29 (.slice ao l.length cap) (some (.int .i64 (s : Int))) none none).run Try.prog wx = .ok (.slice (if cap = s then ao else ao.map (·.add s)) (l.length - s) (cap - s)) wx := by
    intro wx
    rw [run_slice_l wx 29 ao l.length cap u51 .i64 (s : Int) (by omega) (by omega), sz51]
    simp [sliced]
  refine ⟨if cap = s then ao else ao.map (·.add s), fun wx => ?_, r2, ?_⟩
  · rw [run_sliceAt_slice wx 29 _ _ _ _ u51]; exact r2 wx
  · refine ⟨_, cap - s, by rw [List.length_drop], by simp; omega, by omega, fun z hz => h3 z (List.mem_of_mem_drop hz), fun hn => ?_, fun ad he j z hz => ?_⟩
    · split at hn
      · omega
      · cases ao with
        | none => have := h4 rfl; omega
        | some a => cases hn
    · rw [List.getElem?_drop] at hz
      split at he
      · rename_i hc
        have : s + j < l.length := (List.getElem?_eq_some_iff.1 hz).1
        omega
      · cases ao with
        | none => cases he
        | some a =>
          simp at he
          subst he
          rw [Addr.add_add]
          exact h5 a rfl _ _ hz
end

section
open Go Go.RowKit
set_option linter.unusedVariables false
set_option linter.unusedSimpArgs false

theorem bev_half8_h (x : Nat) (h : x < 18446744073709551616) : bev (half8 x) = x := by
  have e : ∀ a b c d e f g i : Nat, bev [(a : Int), (b : Int), (c : Int), (d : Int), (e : Int), (f : Int), (g : Int), (i : Int)] = ((((((a * 256 + b) * 256 + c) * 256 + d) * 256 + e) * 256 + f) * 256 + g) * 256 + i := fun a b c d e f g i => by
    unfold bev; simp
  have := e (x / 72057594037927936) (x / 281474976710656 % 256) (x / 1099511627776 % 256) (x / 4294967296 % 256) (x / 16777216 % 256) (x / 65536 % 256) (x / 256 % 256) (x % 256)
  have k : half8 (x : Int) = [((x / 72057594037927936 : Nat) : Int), ((x / 281474976710656 % 256 : Nat) : Int), ((x / 1099511627776 % 256 : Nat) : Int), ((x / 4294967296 % 256 : Nat) : Int), ((x / 16777216 % 256 : Nat) : Int), ((x / 65536 % 256 : Nat) : Int), ((x / 256 % 256 : Nat) : Int), ((x % 256 : Nat) : Int)] := by
    unfold half8; simp
  rw [k, this]
  omega

theorem bev_w16_h (a b : Nat) (ha : a < 18446744073709551616) (hb : b < 18446744073709551616) : bev (w16 a b) = a * 18446744073709551616 + b := by
  unfold w16
  rw [bev_app, bev_half8_h a ha, bev_half8_h b hb, show (half8 (b : Int)).length = 8 from rfl]

theorem bev_tail_h (a b s : Nat) (hs : s ≤ 16) (ha : a < 18446744073709551616) (hb : b < 18446744073709551616) (h : a * 18446744073709551616 + b < 256 ^ s) : bev ((w16 a b).drop (16 - s)) = a * 18446744073709551616 + b := by
  have e := bev_app ((w16 a b).take (16 - s)) ((w16 a b).drop (16 - s))
  rw [List.take_append_drop, bev_w16_h a b ha hb, List.length_drop, w16_length, show 16 - (16 - s) = s by omega] at e
  have h0 : bev ((w16 a b).take (16 - s)) = 0 := by
    rcases Nat.eq_zero_or_pos (bev ((w16 a b).take (16 - s))) with h0 | h0
    · exact h0
    · exfalso
      have : 1 * 256 ^ s ≤ bev ((w16 a b).take (16 - s)) * 256 ^ s := Nat.mul_le_mul_right _ h0
      omega
  rw [h0] at e
  omega

theorem clip_clip (l : List (Nat × Nat)) : clip (clip l) = clip l := by
  apply List.ext_getElem?
  intro i
  simp only [clip, List.getElem?_mapIdx]
  cases l[i]? with
  | none => rfl
  | some p => simp [cp, Nat.and_assoc]

theorem clip_isH {l : List (Nat × Nat)} (h : isH l) : isH (clip l) := by
  refine ⟨by rw [clip_len]; exact h.1, fun p hp => ?_⟩
  obtain ⟨i, hi⟩ := List.getElem?_of_mem hp
  simp only [clip, List.getElem?_mapIdx] at hi
  cases hq : l[i]? with
  | none => rw [hq] at hi; cases hi
  | some q =>
    rw [hq] at hi
    cases hi
    have := h.at hq
    exact ⟨Nat.lt_of_le_of_lt Nat.and_le_left this.1, Nat.lt_of_le_of_lt Nat.and_le_left this.2⟩

theorem fsize_cl (j : Nat) : cl ((fsize (j : Int) : Nat) : Int) 16 = fsize (j : Int) := by
  have := fsize_le (j : Int)
  unfold cl; omega

theorem fby_len (l : List (Nat × Nat)) (hl : l.length = 24) {j : Nat} (hj : j < 24) : (fby l j).length = fsize (j : Int) := by
  have e : l[j]? = some l[j] := List.getElem?_eq_getElem (by omega)
  simp only [fby, e, wtail_length, fsize_cl]

theorem putK_len (l : List (Nat × Nat)) (hl : l.length = 24) : ∀ k, k ≤ 24 → (putK l k).length = offk k
  | 0, _ => rfl
  | k + 1, h => by
    simp only [putK, List.length_append, putK_len l hl k (by omega), fby_len l hl (show k < 24 by omega), offk]

theorem putK_more (l : List (Nat × Nat)) (a : Nat) : ∀ d, ∃ X, putK l (a + d) = putK l a ++ X
  | 0 => ⟨[], by simp⟩
  | d + 1 => by
    obtain ⟨X, hX⟩ := putK_more l a d
    refine ⟨X ++ fby l (a + d), ?_⟩
    show putK l (a + d) ++ fby l (a + d) = _
    rw [hX, List.append_assoc]

theorem putK_drop (l : List (Nat × Nat)) (hl : l.length = 24) {j : Nat} (hj : j < 24) : ∃ X, (putK l 24).drop (offk j) = fby l j ++ X := by
  obtain ⟨X, hX⟩ := putK_more l (j + 1) (24 - (j + 1))
  rw [show j + 1 + (24 - (j + 1)) = 24 by omega] at hX
  refine ⟨X, ?_⟩
  rw [hX]
  show ((putK l j ++ fby l j) ++ X).drop (offk j) = _
  rw [List.append_assoc, ← putK_len l hl j (by omega), List.drop_left]

theorem gv_app (t X : List Int) (s : Nat) (hs : s ≤ 16) (ht : t.length = s) : gv (t ++ X) (s : Int) = bev t := by
  have hk : gok (t ++ X) (s : Int) = true := by simp [gok]; omega
  unfold gv
  rw [if_pos hk, Int.toNat_natCast, ← ht, List.take_left]

theorem fits_lt (f s x y : Nat) (hf : f ≤ 8 * s) (hx : x ≤ lowb (f - 64)) (hy : y ≤ lowb (min f 64)) : x * 18446744073709551616 + y < 256 ^ s := by
  have e8 : (256 : Nat) ^ s = 2 ^ (8 * s) := by rw [show (256 : Nat) = 2 ^ 8 by decide, ← Nat.pow_mul]
  have hp : 2 ^ f ≤ 2 ^ (8 * s) := Nat.pow_le_pow_right (by decide) hf
  rw [e8]
  unfold lowb at *
  have p1 : 0 < 2 ^ (f - 64) := Nat.two_pow_pos _
  by_cases h : f ≤ 64
  · rw [Nat.sub_eq_zero_of_le h] at hx
    have hx0 : x = 0 := by simpa using hx
    rw [Nat.min_eq_left h] at hy
    have p2 : 0 < 2 ^ f := Nat.two_pow_pos _
    subst hx0
    omega
  · rw [Nat.min_eq_right (by omega)] at hy
    have e : 2 ^ f = 2 ^ (f - 64) * 18446744073709551616 := by
      rw [show (18446744073709551616 : Nat) = 2 ^ 64 by decide, ← Nat.pow_add, show f - 64 + 64 = f by omega]
    have h64 : (2 : Nat) ^ 64 = 18446744073709551616 := by decide
    rw [h64] at hy
    have hx' : x + 1 ≤ 2 ^ (f - 64) := by omega
    have := Nat.mul_le_mul_right 18446744073709551616 hx'
    omega

theorem clipped_at {C : List (Nat × Nat)} (h : clip C = C) {j x y : Nat} (hj : C[j]? = some (x, y)) : x ≤ cpH j ∧ y ≤ cpL j := by
  have e := congrArg (fun l => l[j]?) h
  simp only [clip, List.getElem?_mapIdx, hj, Option.map_some, Option.some.injEq, cp, Prod.mk.injEq] at e
  obtain ⟨e1, e2⟩ := e
  constructor
  · rw [← e1]; exact Nat.and_le_right
  · rw [← e2]; exact Nat.and_le_right

theorem pj_put {C : List (Nat × Nat)} (hC : isH C) (h : clip C = C) {j : Nat} (hj : j < 24) : C[j]? = some (pj (putK C 24) j) := by
  obtain ⟨x, y, hp, hx, hy⟩ := hC.get hj
  obtain ⟨X, hX⟩ := putK_drop C hC.1 hj
  have hs := fsize_le (j : Int)
  obtain ⟨b1, b2⟩ := clipped_at h hp
  have hlt := fits_lt (fbits (j : Int)) (fsize (j : Int)) x y (by unfold fsize; omega) b1 b2
  have hv : gv ((putK C 24).drop (offk j)) (fsize (j : Int) : Nat) = x * 18446744073709551616 + y := by
    rw [hX, gv_app _ _ _ hs (fby_len C hC.1 hj)]
    simp only [fby, hp, wtail, fsize_cl]
    exact bev_tail_h x y _ hs hx hy hlt
  rw [hp]
  unfold pj gx gy
  rw [hv]
  congr 2 <;> omega

theorem PK_put {C : List (Nat × Nat)} (hC : isH C) (h : clip C = C) : PK (putK C 24) 24 = C := by
  apply List.ext_getElem?
  intro i
  by_cases hi : i < 24
  · rw [pj_put hC h hi]
    simp [PK, hi]
  · rw [List.getElem?_eq_none (by rw [PK_len]; omega), List.getElem?_eq_none (by rw [hC.1]; omega)]

theorem back_ok {C : List (Nat × Nat)} (hC : isH C) (h : clip C = C) : pr (putK C 24) = C ∧ pe (putK C 24) = 0 := by
  have e := PK_put hC h
  have hl : (putK C 24).length = 95 := by rw [putK_len C hC.1 24 (Nat.le_refl _), off24]
  have hp : pok (putK C 24) = true := by simp [pok, hl, e, h]
  exact ⟨by simp [pr, hp, e], by simp [pe, hp]⟩

theorem bev_cons (z : Int) (l : List Int) : bev (z :: l) = z.toNat * 256 ^ l.length + bev l := by
  unfold bev
  rw [List.foldl_cons, foldl_bev]
  simp [bev]

theorem bev_inj : ∀ (l m : List Int), isB l → isB m → l.length = m.length → bev l = bev m → l = m
  | [], [], _, _, _, _ => rfl
  | [], c :: m, _, _, h, _ => by simp at h
  | a :: l, [], _, _, h, _ => by simp at h
  | a :: l, c :: m, ha, hm, hn, he => by
    have hn' : l.length = m.length := by simpa using hn
    have ha' : isB l := fun z hz => ha z (by simp [hz])
    have hm' : isB m := fun z hz => hm z (by simp [hz])
    rw [bev_cons, bev_cons, hn'] at he
    have l1 := bev_lt l ha'
    have l2 := bev_lt m hm'
    rw [hn'] at l1
    have p : 0 < 256 ^ m.length := Nat.pow_pos (by decide)
    have d1 : (a.toNat * 256 ^ m.length + bev l) / 256 ^ m.length = a.toNat := by
      rw [Nat.mul_comm, Nat.mul_add_div p, Nat.div_eq_of_lt l1, Nat.add_zero]
    have d2 : (c.toNat * 256 ^ m.length + bev m) / 256 ^ m.length = c.toNat := by
      rw [Nat.mul_comm, Nat.mul_add_div p, Nat.div_eq_of_lt l2, Nat.add_zero]
    have e1 : a.toNat = c.toNat := by rw [← d1, ← d2, he]
    rw [e1] at he
    have e2 : bev l = bev m := by omega
    have h1 := ha a (by simp)
    have h2 := hm c (by simp)
    have : a = c := by omega
    rw [this, bev_inj l m ha' hm' hn' e2]

theorem isB_half8 (x : Nat) (h : x < 18446744073709551616) : isB (half8 x) := by
  intro z hz
  simp only [half8, List.mem_cons, List.not_mem_nil, or_false] at hz
  rcases hz with rfl | rfl | rfl | rfl | rfl | rfl | rfl | rfl <;> omega

theorem isB_wtail (a b : Nat) (s : Int) (ha : a < 18446744073709551616) (hb : b < 18446744073709551616) : isB (wtail a b s) := by
  intro z hz
  have hz := List.mem_of_mem_drop hz
  rcases List.mem_append.1 hz with hz | hz
  · exact isB_half8 a ha z hz
  · exact isB_half8 b hb z hz

theorem read_put (r : List Int) (s : Nat) (hr : isB r) (hs : s ≤ 16) (hl : s ≤ r.length) : wtail (gx r (s : Int)) (gy r (s : Int)) (s : Int) = r.take s := by
  have hk : gok r (s : Int) = true := by simp [gok]; omega
  have hv : gv r (s : Int) = bev (r.take s) := by unfold gv; rw [if_pos hk, Int.toNat_natCast]
  have hlt := gv_lt r (s : Int) hr
  have hc : cl (s : Int) 16 = s := by unfold cl; omega
  have hx : gx r (s : Int) < 18446744073709551616 := by unfold gx; omega
  have hy : gy r (s : Int) < 18446744073709551616 := Nat.mod_lt _ (by decide)
  have hsum : gx r (s : Int) * 18446744073709551616 + gy r (s : Int) = bev (r.take s) := by
    rw [← hv]; unfold gx gy; omega
  have hb := bev_lt (r.take s) (isB_take hr s)
  have hlen : (r.take s).length = s := by simp; omega
  rw [hlen] at hb
  apply bev_inj
  · exact isB_wtail _ _ _ hx hy
  · exact isB_take hr s
  · rw [wtail_length, hc, hlen]
  · unfold wtail
    rw [hc, bev_tail_h _ _ s hs hx hy (by rw [hsum]; exact hb), hsum]

theorem PK_get (b : List Int) {j : Nat} (hj : j < 24) : (PK b 24)[j]? = some (pj b j) := by
  simp [PK, hj]

theorem put_PK (b : List Int) (hb : isB b) (hl : b.length = 95) : ∀ k, k ≤ 24 → putK (PK b 24) k = b.take (offk k)
  | 0, _ => by simp [putK, offk]
  | k + 1, h => by
    have h24 := offk_le h
    have e : offk (k + 1) = offk k + fsize (k : Int) := rfl
    have hs := fsize_le (k : Int)
    have := read_put (b.drop (offk k)) (fsize (k : Int)) (fun z hz => hb z (List.mem_of_mem_drop hz)) hs (by simp only [List.length_drop]; omega)
    show putK (PK b 24) k ++ fby (PK b 24) k = _
    rw [put_PK b hb hl k (by omega), e, List.take_add]
    congr 1
    simp only [fby, PK_get b (show k < 24 by omega), pj]
    exact this

theorem put_back (b : List Int) (hb : isB b) (h : pe b = 0) : pr b = PK b 24 ∧ clip (PK b 24) = PK b 24 ∧ putK (PK b 24) 24 = b := by
  have hp : pok b = true := by
    by_cases hq : pok b = true
    · exact hq
    · simp [pe, hq] at h
  have hq := hp
  simp only [pok, Bool.and_eq_true, decide_eq_true_eq] at hq
  refine ⟨by simp [pr, hp], hq.2, ?_⟩
  rw [put_PK b hb hq.1 24 (Nat.le_refl _), off24, ← hq.1, List.take_length]

theorem hput_no (b : List Int) (h : ¬ pe b = 0) : pr b = z24 ∧ pe b = 4 := by
  have hp : pok b = false := by
    by_cases hq : pok b = true
    · simp [pe, hq] at h
    · simpa using hq
  simp [pr, pe, hp]
end

section
open Go Go.RowKit
set_option linter.unusedVariables false
set_option linter.unusedSimpArgs false

end

end Go.Proofs.Ytpopjgplbhnbnaa
