import Derived.Test.YtikooaaigdmjmaaH
namespace Go.Proofs.Ytikooaaigdmjmaa
open Go.RowKit
set_option linter.unusedVariables false
set_option linter.unusedSimpArgs false

theorem Bytes.lit (w : World) (l : List Int) (t : TypeId) (h : isB l) (hl : l.length ≤ 1000) : Bytes (w.alloc (.cells (u8s l).toArray t)) (.slice (some ⟨w.heap.size, 0, none⟩) l.length l.length) l := by
  refine ⟨_, _, rfl, Nat.le_refl _, by unfold maxLen; omega, h, (fun e => by cases e), fun ad e j z hz => ?_⟩
  cases e
  rw [Addr.add_lit, World.cell?_alloc_new]
  simp [u8s, hz]

theorem awake_get (w : World) :
    Calls Try.prog 9 #[.slice (some ⟨w.heap.size, 0, none⟩) 3 3, .int .i64 1, .int .i64 2] (w.alloc (.cells #[.int .u8 0, .int .u8 1, .int .u8 2] 5)) fun e w' => e = .returned (.tuple #[.int .i64 258, .int .i64 0]) ∧ Below (w.heap.size + 1) (w.alloc (.cells #[.int .u8 0, .int .u8 1, .int .u8 2] 5)) w' := by
  have h := get_ok2 w.heap.size 0 3 3 1 1 2 (w.alloc (.cells #[.int .u8 0, .int .u8 1, .int .u8 2] 5)) (by omega) (by omega) (by omega) (by omega) (by unfold maxLen; omega) (by simp) (by simp)
  simpa using h

set_option maxHeartbeats 400000 in
theorem awake_any (w : World) :
    Calls Try.prog 11 #[] w fun e w' => e = .returned (.bool true) ∧ Below w.heap.size w w' := by
  go_enter Try.func11, Try.ntmps11
  go_wp2_with fail
  refine (awake_get w).mono ?_
  rintro e w1 ⟨rfl, b1⟩
  go_wp2_with fail
  refine (put_any (.slice none 0 0) [] 258 2 _ (Bytes.nil _) (by decide) rfl).mono ?_
  rintro e w2 ⟨r, rfl, ho, b2⟩
  have hr : Bytes w2 r [1, 2] := Bytes.ofOwn ho (by intro z hz; simp at hz; omega)
  have HR : Hid (Bytes w2 r [1, 2]) := hr
  clear hr ho
  go_wp2_with fail
  refine (equal_any r _ [1, 2] [1, 2] _ (HR.out.later (by go_grown)) (Bytes.lit w2 [1, 2] 5 (by intro z hz; simp at hz; omega) (by decide))).mono ?_
  rintro e w3 ⟨rfl, b3⟩
  have e0 : (([1, 2] : List Int) == [1, 2]) = true := rfl
  have e1 : rightB 255 1 = true := rfl
  have e2 : rightB 256 1 = false := rfl
  go_wp2_with (go_at_call 16; refine (right_any _ _ _).mono ?_; rintro e w' ⟨rfl, rfl⟩)
  go_ret
  refine ⟨rfl, ?_⟩
  have s1 := b1.size
  have s2 := b2.size
  have s3 := b3.size
  simp at s1 s2 s3
  refine (by go_grown : Below w.heap.size w (w.alloc (.cells #[.int .u8 0, .int .u8 1, .int .u8 2] 5))).trans ((b1.mono (by omega)).trans ((b2.mono (by omega)).trans ?_))
  exact (by go_grown : Below w.heap.size w2 (w2.alloc (.cells (u8s [1, 2]).toArray 5))).trans (b3.mono (by simp; omega))

end Go.Proofs.Ytikooaaigdmjmaa
