import Derived.Test.YtmpfpolanndakaaK
import Derived.WalkKit
import Derived.WalkSpells
import Derived.WalkLawsBesides
import Derived.Below
import Derived.Handy
namespace Go.Proofs.Ytmpfpolanndakaa
open Go Go.RowKit
set_option linter.unusedVariables false
set_option linter.unusedSimpArgs false

/-- the number that bytes are, the highest first -/
def bev (l : List Int) : Nat := l.foldl (fun a z => a * 256 + z.toNat) 0

theorem foldl_bev (l : List Int) : ∀ n, l.foldl (fun a z => a * 256 + z.toNat) n = n * 256 ^ l.length + bev l := by
  induction l with
  | nil => intro n; simp [bev]
  | cons z l ih =>
    intro n
    unfold bev
    simp only [List.foldl_cons, List.length_cons]
    rw [ih, ih (0 * 256 + z.toNat), Nat.pow_succ]
    simp only [Nat.add_mul, Nat.zero_mul, Nat.zero_add]
    rw [Nat.mul_assoc, Nat.mul_comm 256, Nat.add_assoc]

theorem bev_app (x y : List Int) : bev (x ++ y) = bev x * 256 ^ y.length + bev y := by
  unfold bev
  rw [List.foldl_append, foldl_bev]
  rfl

theorem bev_snoc (l : List Int) (z : Int) : bev (l ++ [z]) = bev l * 256 + z.toNat := by
  rw [bev_app]; simp [bev]

theorem bev_lt (l : List Int) (h : isB l) : bev l < 256 ^ l.length := by
  induction l with
  | nil => simp [bev]
  | cons z l ih =>
    have hz := h z (by simp)
    have := ih (fun y hy => h y (by simp [hy]))
    have e : bev (z :: l) = z.toNat * 256 ^ l.length + bev l := by
      show List.foldl _ (0 * 256 + z.toNat) l = _
      rw [foldl_bev]; simp
    rw [e, List.length_cons, Nat.pow_succ]
    have h1 : z.toNat ≤ 255 := by omega
    have h2 : z.toNat * 256 ^ l.length ≤ 255 * 256 ^ l.length := Nat.mul_le_mul_right _ h1
    omega

theorem bev_zeros (d : Nat) (l : List Int) : bev (List.replicate d 0 ++ l) = bev l := by
  rw [bev_app]
  have : bev (List.replicate d 0) = 0 := by
    induction d with
    | zero => rfl
    | succ d ih => rw [List.replicate_succ', bev_snoc, ih]; rfl
  rw [this]; simp

/-- the halves of what is got -/
def gok (l : List Int) (size : Int) : Bool := decide (0 ≤ size) && (decide (size ≤ 16) && decide (size ≤ (l.length : Int)))

def gv (l : List Int) (size : Int) : Nat := if gok l size then bev (l.take size.toNat) else 0

theorem isB_take {l : List Int} (h : isB l) (k : Nat) : isB (l.take k) := fun z hz => h z (List.mem_of_mem_take hz)

end Go.Proofs.Ytmpfpolanndakaa
