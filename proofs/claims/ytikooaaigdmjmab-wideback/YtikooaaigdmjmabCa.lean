import Derived.Test.YtikooaaigdmjmabZ
namespace Go.Proofs.Ytikooaaigdmjmab
open Go Go.RowKit
set_option linter.unusedVariables false
set_option linter.unusedSimpArgs false

/-- the number that bytes are, the highest first -/
def bev (l : List Int) : Nat := l.foldl (fun a z => a * 256 + z.toNat) 0
theorem foldl_bev (l : List Int) : ∀ n, l.foldl (fun a z => a * 256 + z.toNat) n = n * 256 ^ l.length + bev l := by
  induction l with
  | nil => intro n; simp [bev]
  | cons z l ih =>
    intro n
    unfold bev
    simp only [List.foldl_cons, List.length_cons]
    rw [ih, ih (0 * 256 + z.toNat), Nat.pow_succ]
    simp only [Nat.add_mul, Nat.zero_mul, Nat.zero_add]
    rw [Nat.mul_assoc, Nat.mul_comm 256, Nat.add_assoc]
theorem bev_app (x y : List Int) : bev (x ++ y) = bev x * 256 ^ y.length + bev y := by
  unfold bev
  rw [List.foldl_append, foldl_bev]
  rfl
theorem bev_snoc (l : List Int) (z : Int) : bev (l ++ [z]) = bev l * 256 + z.toNat := by
  rw [bev_app]; simp [bev]
theorem bev_lt (l : List Int) (h : isB l) : bev l < 256 ^ l.length := by
  induction l with
  | nil => simp [bev]
  | cons z l ih =>
    have hz := h z (by simp)
    have := ih (fun y hy => h y (by simp [hy]))
    have e : bev (z :: l) = z.toNat * 256 ^ l.length + bev l := by
      show List.foldl _ (0 * 256 + z.toNat) l = _
      rw [foldl_bev]; simp
    rw [e, List.length_cons, Nat.pow_succ]
    have h1 : z.toNat ≤ 255 := by omega
    have h2 : z.toNat * 256 ^ l.length ≤ 255 * 256 ^ l.length := Nat.mul_le_mul_right _ h1
    omega
theorem bev_zeros (d : Nat) (l : List Int) : bev (List.replicate d 0 ++ l) = bev l := by
  rw [bev_app]
  have : bev (List.replicate d 0) = 0 := by
    induction d with
    | zero => rfl
    | succ d ih => rw [List.replicate_succ', bev_snoc, ih]; rfl
  rw [this]; simp
theorem bev_half8 (x : Nat) (h : x < 18446744073709551616) : bev (half8 x) = x := by
  have e : ∀ a b c d e f g i : Nat, bev [(a : Int), (b : Int), (c : Int), (d : Int), (e : Int), (f : Int), (g : Int), (i : Int)] = ((((((a * 256 + b) * 256 + c) * 256 + d) * 256 + e) * 256 + f) * 256 + g) * 256 + i := fun a b c d e f g i => by
    unfold bev; simp
  have := e (x / 72057594037927936) (x / 281474976710656 % 256) (x / 1099511627776 % 256) (x / 4294967296 % 256) (x / 16777216 % 256) (x / 65536 % 256) (x / 256 % 256) (x % 256)
  have k : half8 (x : Int) = [((x / 72057594037927936 : Nat) : Int), ((x / 281474976710656 % 256 : Nat) : Int), ((x / 1099511627776 % 256 : Nat) : Int), ((x / 4294967296 % 256 : Nat) : Int), ((x / 16777216 % 256 : Nat) : Int), ((x / 65536 % 256 : Nat) : Int), ((x / 256 % 256 : Nat) : Int), ((x % 256 : Nat) : Int)] := by
    unfold half8; simp
  rw [k, this]
  omega
theorem bev_w16 (a b : Nat) (ha : a < 18446744073709551616) (hb : b < 18446744073709551616) : bev (w16 a b) = a * 18446744073709551616 + b := by
  unfold w16
  rw [bev_app, bev_half8 a ha, bev_half8 b hb, show (half8 (b : Int)).length = 8 from rfl]
theorem bev_tail (a b s : Nat) (hs : s ≤ 16) (ha : a < 18446744073709551616) (hb : b < 18446744073709551616) (h : a * 18446744073709551616 + b < 256 ^ s) : bev ((w16 a b).drop (16 - s)) = a * 18446744073709551616 + b := by
  have e := bev_app ((w16 a b).take (16 - s)) ((w16 a b).drop (16 - s))
  rw [List.take_append_drop, bev_w16 a b ha hb, List.length_drop, w16_length, show 16 - (16 - s) = s by omega] at e
  have h0 : bev ((w16 a b).take (16 - s)) = 0 := by
    rcases Nat.eq_zero_or_pos (bev ((w16 a b).take (16 - s))) with h0 | h0
    · exact h0
    · exfalso
      have : 1 * 256 ^ s ≤ bev ((w16 a b).take (16 - s)) * 256 ^ s := Nat.mul_le_mul_right _ h0
      omega
  rw [h0] at e
  omega

/-- the halves of what is got -/
def gok (l : List Int) (size : Int) : Bool := decide (0 ≤ size) && (decide (size ≤ 16) && decide (size ≤ (l.length : Int)))
def gv (l : List Int) (size : Int) : Nat := if gok l size then bev (l.take size.toNat) else 0
theorem bev16_lt (l : List Int) (h : isB l) (hl : l.length ≤ 16) : bev l < 340282366920938463463374607431768211456 := by
  have := bev_lt l h
  have h2 : 256 ^ l.length ≤ 256 ^ 16 := Nat.pow_le_pow_right (by decide) hl
  have h3 : (256 : Nat) ^ 16 = 340282366920938463463374607431768211456 := by decide
  omega
theorem isB_take {l : List Int} (h : isB l) (k : Nat) : isB (l.take k) := fun z hz => h z (List.mem_of_mem_take hz)

/-- what a number has of its lowest bytes -/
theorem low_bytes (a b s : Nat) (hs : s ≤ 16) : (a &&& lowb (8 * s - 64)) * 18446744073709551616 + (b &&& lowb (min (8 * s) 64)) < 256 ^ s := by
  have h1 : a &&& lowb (8 * s - 64) ≤ lowb (8 * s - 64) := Nat.and_le_right
  have h2 : b &&& lowb (min (8 * s) 64) ≤ lowb (min (8 * s) 64) := Nat.and_le_right
  generalize a &&& lowb (8 * s - 64) = x at *
  generalize b &&& lowb (min (8 * s) 64) = y at *
  have hp : (256 : Nat) ^ s = 2 ^ (8 * s) := by rw [show (256 : Nat) = 2 ^ 8 from rfl, ← Nat.pow_mul]
  rw [hp]
  unfold lowb at h1 h2
  by_cases h : 8 * s ≤ 64
  · rw [show 8 * s - 64 = 0 by omega] at h1
    rw [show min (8 * s) 64 = 8 * s by omega] at h2
    have := Nat.two_pow_pos (8 * s)
    simp at h1
    subst h1
    omega
  · rw [show min (8 * s) 64 = 64 by omega] at h2
    have e : (2 : Nat) ^ (8 * s) = 2 ^ (8 * s - 64) * 18446744073709551616 := by
      rw [show (18446744073709551616 : Nat) = 2 ^ 64 from rfl, ← Nat.pow_add]; congr 1; omega
    rw [e]
    have := Nat.two_pow_pos (8 * s - 64)
    have h3 : (2 : Nat) ^ 64 = 18446744073709551616 := by decide
    rw [h3] at h2
    generalize (2 : Nat) ^ (8 * s - 64) = p at *
    have h4 : x + 1 ≤ p := by omega
    have := Nat.mul_le_mul_right 18446744073709551616 h4
    omega
end Go.Proofs.Ytikooaaigdmjmab
