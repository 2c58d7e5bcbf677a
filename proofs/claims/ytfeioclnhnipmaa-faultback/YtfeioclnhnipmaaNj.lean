import Derived.Test.YtfeioclnhnipmaaNe
import Derived.Deep.RegionHeld3
import Derived.Deep.RegionWith
import Derived.Deep.MidRow
import Derived.Deep.Cut
namespace Go.Proofs.Ytfeioclnhnipmaa
open Go Go.RowKit
set_option linter.unusedVariables false
set_option linter.unusedSimpArgs false

/-- may a message have this head and so many bytes -/
def headR (kind xid : Int) (body : List Int) : Bool := rightB kind 1 && rightB xid 4 && decide (body.length ≤ 65527)
def h1F (kind : Int) : List Int := spl 4 1 ++ spl kind 1
def h2F (kind : Int) (n : Nat) : List Int := h1F kind ++ spl (8 + (n : Int)) 2
def h3F (kind xid : Int) (n : Nat) : List Int := h2F kind n ++ spl xid 4
def headF (kind xid : Int) (body : List Int) : List Int := h3F kind xid body.length ++ body
theorem spl_len (n s : Int) : (spl n s).length = if s = 1 then 1 else if s = 2 then 2 else 4 := by
  by_cases h1 : s = 1
  · simp [spl, h1]
  · by_cases h2 : s = 2 <;> simp [spl, h1, h2]
theorem h3F_len (kind xid : Int) (n : Nat) : (h3F kind xid n).length = 8 := by unfold h3F h2F h1F; simp [spl_len]
theorem headF_len (kind xid : Int) (body : List Int) : (headF kind xid body).length = 8 + body.length := by unfold headF; rw [List.length_append, h3F_len]
set_option maxRecDepth 100000 in
set_option maxHeartbeats 8000000 in
theorem head_no (kind xid : Int) (v : Value) (body : List Int) (w : World) (hB : Bytes w v body) (h : headR kind xid body = false) :
    Calls Try.prog 20 #[.int .i64 kind, .int .i64 xid, v] w fun e w' => e = .returned (.tuple #[.slice none 0 0, .int .i64 1]) ∧ Below w.heap.size w w' := by
  have gr1 := fun w => right_any kind 1 w
  have gr2 := fun w => right_any xid 4 w
  obtain ⟨ao, cap, rfl, h1, h2, -⟩ := hB
  have hm : body.length ≤ 9223372036854775807 := by unfold maxLen at h2; omega
  unfold headR at h
  clear h1 h2
  cases ha : rightB kind 1
  · rw [ha] at gr1
    clear h
    go_enter Try.func20, Try.ntmps20
    go_wp2_with (first | (go_at_call_of 17 (Value.int .i64 xid); refine (gr2 _).mono ?_; rintro e w9 ⟨rfl, rfl⟩) | (go_at_call_of 17 (Value.int .i64 kind); refine (gr1 _).mono ?_; rintro e w9 ⟨rfl, rfl⟩))
    go_ret2
    exact ⟨by first | rfl | simp, Below.refl _ _⟩
  · cases hb : rightB xid 4
    · rw [ha] at gr1
      rw [hb] at gr2
      clear h
      go_enter Try.func20, Try.ntmps20
      go_wp2_with (first | (go_at_call_of 17 (Value.int .i64 xid); refine (gr2 _).mono ?_; rintro e w9 ⟨rfl, rfl⟩) | (go_at_call_of 17 (Value.int .i64 kind); refine (gr1 _).mono ?_; rintro e w9 ⟨rfl, rfl⟩))
      go_ret2
      exact ⟨by first | rfl | simp, Below.refl _ _⟩
    · rw [ha, hb] at h
      have h3 : (65527 : Int) < (body.length : Int) := by simp at h; omega
      rw [ha] at gr1
      rw [hb] at gr2
      clear h
      go_enter Try.func20, Try.ntmps20
      go_wp2_with (first | (go_at_call_of 17 (Value.int .i64 xid); refine (gr2 _).mono ?_; rintro e w9 ⟨rfl, rfl⟩) | (go_at_call_of 17 (Value.int .i64 kind); refine (gr1 _).mono ?_; rintro e w9 ⟨rfl, rfl⟩))
      go_ret2
      exact ⟨by first | rfl | simp, Below.refl _ _⟩
set_option maxRecDepth 100000 in
set_option maxHeartbeats 8000000 in
theorem rhead_no (kind xid : Int) (v : Value) (body : List Int) (w : World) (hB : Bytes w v body) (h : headR kind xid body = false) :
    Calls Try.prog 24 #[.int .i64 kind, .int .i64 xid, v] w fun e w' => e = .returned (.tuple #[.slice none 0 0, .int .i64 1]) ∧ Below w.heap.size w w' := by
  have gr1 := fun w => rright_any kind 1 w
  have gr2 := fun w => rright_any xid 4 w
  obtain ⟨ao, cap, rfl, h1, h2, -⟩ := hB
  have hm : body.length ≤ 9223372036854775807 := by unfold maxLen at h2; omega
  unfold headR at h
  clear h1 h2
  cases ha : rightB kind 1
  · rw [ha] at gr1
    clear h
    go_enter Try.func24, Try.ntmps24
    go_wp2_with (first | (go_at_call_of 21 (Value.int .i64 xid); refine (gr2 _).mono ?_; rintro e w9 ⟨rfl, rfl⟩) | (go_at_call_of 21 (Value.int .i64 kind); refine (gr1 _).mono ?_; rintro e w9 ⟨rfl, rfl⟩))
    go_ret2
    exact ⟨by first | rfl | simp, Below.refl _ _⟩
  · cases hb : rightB xid 4
    · rw [ha] at gr1
      rw [hb] at gr2
      clear h
      go_enter Try.func24, Try.ntmps24
      go_wp2_with (first | (go_at_call_of 21 (Value.int .i64 xid); refine (gr2 _).mono ?_; rintro e w9 ⟨rfl, rfl⟩) | (go_at_call_of 21 (Value.int .i64 kind); refine (gr1 _).mono ?_; rintro e w9 ⟨rfl, rfl⟩))
      go_ret2
      exact ⟨by first | rfl | simp, Below.refl _ _⟩
    · rw [ha, hb] at h
      have h3 : (65527 : Int) < (body.length : Int) := by simp at h; omega
      rw [ha] at gr1
      rw [hb] at gr2
      clear h
      go_enter Try.func24, Try.ntmps24
      go_wp2_with (first | (go_at_call_of 21 (Value.int .i64 xid); refine (gr2 _).mono ?_; rintro e w9 ⟨rfl, rfl⟩) | (go_at_call_of 21 (Value.int .i64 kind); refine (gr1 _).mono ?_; rintro e w9 ⟨rfl, rfl⟩))
      go_ret2
      exact ⟨by first | rfl | simp, Below.refl _ _⟩
set_option maxRecDepth 100000 in
set_option maxHeartbeats 8000000 in
theorem head_yes (kind xid : Int) (v : Value) (body : List Int) (w : World) (hB : Bytes w v body) (h : headR kind xid body = true) :
    Calls Try.prog 20 #[.int .i64 kind, .int .i64 xid, v] w fun e w' => ∃ r, e = .returned (.tuple #[r, .int .i64 0]) ∧ w'.ownsRow w.heap.size 5 1 r (8 + body.length) (u8s (headF kind xid body)) ∧ Below w.heap.size w w' := by
  unfold headR at h
  simp only [Bool.and_eq_true, decide_eq_true_eq] at h
  obtain ⟨⟨ha, hb⟩, hc⟩ := h
  have gr1 := fun w => right_any kind 1 w
  have gr2 := fun w => right_any xid 4 w
  rw [ha] at gr1
  rw [hb] at gr2
  have r2 : rightB (8 + (body.length : Int)) 2 = true := by simp [rightB, szB, lim]; omega
  have i1 : isB (h1F kind) := (spl_isB 4 1 (by decide)).app (spl_isB kind 1 ha)
  have i2 : isB (h2F kind body.length) := i1.app (spl_isB _ 2 r2)
  have i3 : isB (h3F kind xid body.length) := i2.app (spl_isB _ 4 hb)
  have l1 : (h1F kind).length = 2 := by unfold h1F; simp [spl_len]
  have l2 : (h2F kind body.length).length = 4 := by unfold h2F; simp [spl_len, l1]
  have l3 := h3F_len kind xid body.length
  have q1 : Hid (∀ W, Calls Try.prog 19 #[.slice none 0 0, .int .i64 4, .int .i64 1] W fun e w' => ∃ r, e = .returned r ∧ Bytes w' r (spl 4 1) ∧ Below W.heap.size W w') := hide_ (fun W => (put_any (.slice none 0 0) [] 4 1 W (Bytes.nil W) (by simp) (by decide)).mono (by
    rintro e w' ⟨r, rfl, ho, hb⟩
    exact ⟨r, rfl, Bytes.ofOwn ho (spl_isB 4 1 (by decide)), hb⟩))
  have q2 : Hid (∀ (v : Value) W, Bytes W v (spl 4 1) → Calls Try.prog 19 #[v, .int .i64 kind, .int .i64 1] W fun e w' => ∃ r, e = .returned r ∧ Bytes w' r (h1F kind) ∧ Below W.heap.size W w') := hide_ (fun v W h => (put_any v _ kind 1 W h (by simp [spl_len]) ha).mono (by
    rintro e w' ⟨r, rfl, ho, hb⟩
    exact ⟨r, rfl, Bytes.ofOwn ho i1, hb⟩))
  have q3 : Hid (∀ (v : Value) W, Bytes W v (h1F kind) → Calls Try.prog 19 #[v, .int .i64 (8 + (body.length : Int)), .int .i64 2] W fun e w' => ∃ r, e = .returned r ∧ Bytes w' r (h2F kind body.length) ∧ Below W.heap.size W w') := hide_ (fun v W h => (put_any v _ (8 + (body.length : Int)) 2 W h (by rw [l1]; omega) r2).mono (by
    rintro e w' ⟨r, rfl, ho, hb⟩
    exact ⟨r, rfl, Bytes.ofOwn ho i2, hb⟩))
  have q4 : Hid (∀ (v : Value) W, Bytes W v (h2F kind body.length) → Calls Try.prog 19 #[v, .int .i64 xid, .int .i64 4] W fun e w' => ∃ r, e = .returned r ∧ w'.ownsRow W.heap.size 5 1 r 8 (u8s (h3F kind xid body.length)) ∧ Below W.heap.size W w') := hide_ (fun v W h => (put_any v _ xid 4 W h (by rw [l2]; omega) hb).mono (by
    rintro e w' ⟨r, rfl, ho, hb⟩
    refine ⟨r, rfl, ?_, hb⟩
    have := ho
    rw [show (h2F kind body.length ++ spl xid 4) = h3F kind xid body.length from rfl, l3] at this
    exact this))
  have HI := hide_ (And.intro i1 (And.intro i2 i3))
  have HL := hide_ (And.intro l1 (And.intro l2 l3))
  have HB := hide_ hB
  obtain ⟨ao, cap, rfl, h1, h2, -⟩ := hB
  have hc' : ¬ (65527 : Int) < (body.length : Int) := by omega
  obtain ⟨i0, hi0, hz0, hz1, hz2⟩ := info_parts info5
  have HN : Hid (Try.prog.info? 5 = some i0 ∧ i0.zero = some (.int .u8 0) ∧ i0.size = 1 ∧ i0.bytes = 1) := ⟨hi0, hz0, hz1, hz2⟩
  clear h1 h2 i1 i2 i3 l1 l2 l3 r2 ha hb hi0 hz0 hz1 hz2
  go_enter Try.func20, Try.ntmps20
  go_wp2_with (first | (first | (go_at_call_of 17 (Value.int .i64 xid); refine (gr2 _).mono ?_; rintro e w9 ⟨rfl, rfl⟩) | (go_at_call_of 17 (Value.int .i64 kind); refine (gr1 _).mono ?_; rintro e w9 ⟨rfl, rfl⟩)) | (go_at_call 19; first | (refine (q4.out _ _ h3.out).mono ?_; rintro e w4 ⟨r4, rfl, o4, b4⟩; obtain ⟨g4, c4, e4, -, -⟩ := own_form o4 (by omega); subst e4; have k4 := hide_ (k3.out.trans (b4.mono k3.out.size)); have o4 := hide_ (ownsRow_base o4 k3.out.size); clear b4) | (refine (q3.out _ _ h2.out).mono ?_; rintro e w3 ⟨r3, rfl, h3, b3⟩; have k3 := hide_ (k2.out.trans (b3.mono k2.out.size)); have h3 := hide_ h3; clear b3) | (refine (q2.out _ _ h1.out).mono ?_; rintro e w2 ⟨r2, rfl, h2, b2⟩; have k2 := hide_ (k1.out.trans (b2.mono k1.out.size)); have h2 := hide_ h2; clear b2) | (refine (q1.out _).mono ?_; rintro e w1 ⟨r1, rfl, h1, b1⟩; have k1 := hide_ b1; have h1 := hide_ h1; clear b1)) | (at_builtin; refine wpList_append_ownB rfl (.tmp 34) (.tmp 35) 24 rfl w.heap.size 5 i0 Try.underlying24 HN.out.1 HN.out.2.1 HN.out.2.2.1 HN.out.2.2.2 (.slice (some ⟨g4, 0, none⟩) 8 c4) 8 (u8s (h3F kind xid body.length)) (by simp [Act.eval, Act.put]) o4.out (.slice ao body.length cap) body (by simp [Act.eval, Act.put]) (HB.out.later k4.out) (by omega) k4.out.size ?_; intro v5 w5 own5 hg5; have own5 := hide_ own5; have k5 := hide_ (k4.out.trans (below_grown hg5 _ k4.out.size (fun k e => (own_block_lt o4.out e).1)))))
  go_ret2
  refine ⟨_, by first | rfl | simp, ?_, k5.out⟩
  have := own5.out
  rw [← u8s_append] at this
  exact this

set_option maxRecDepth 100000 in
set_option maxHeartbeats 8000000 in
theorem rhead_yes (kind xid : Int) (v : Value) (body : List Int) (w : World) (hB : Bytes w v body) (h : headR kind xid body = true) :
    Calls Try.prog 24 #[.int .i64 kind, .int .i64 xid, v] w fun e w' => ∃ r, e = .returned (.tuple #[r, .int .i64 0]) ∧ w'.ownsRow w.heap.size 5 1 r (8 + body.length) (u8s (headF kind xid body)) ∧ Below w.heap.size w w' := by
  unfold headR at h
  simp only [Bool.and_eq_true, decide_eq_true_eq] at h
  obtain ⟨⟨ha, hb⟩, hc⟩ := h
  have gr1 := fun w => rright_any kind 1 w
  have gr2 := fun w => rright_any xid 4 w
  rw [ha] at gr1
  rw [hb] at gr2
  have r2 : rightB (8 + (body.length : Int)) 2 = true := by simp [rightB, szB, lim]; omega
  have i1 : isB (h1F kind) := (spl_isB 4 1 (by decide)).app (spl_isB kind 1 ha)
  have i2 : isB (h2F kind body.length) := i1.app (spl_isB _ 2 r2)
  have i3 : isB (h3F kind xid body.length) := i2.app (spl_isB _ 4 hb)
  have l1 : (h1F kind).length = 2 := by unfold h1F; simp [spl_len]
  have l2 : (h2F kind body.length).length = 4 := by unfold h2F; simp [spl_len, l1]
  have l3 := h3F_len kind xid body.length
  have q1 : Hid (∀ W, Calls Try.prog 23 #[.slice none 0 0, .int .i64 4, .int .i64 1] W fun e w' => ∃ r, e = .returned r ∧ Bytes w' r (spl 4 1) ∧ Below W.heap.size W w') := hide_ (fun W => (rput_any (.slice none 0 0) [] 4 1 W (Bytes.nil W) (by simp) (by decide)).mono (by
    rintro e w' ⟨r, rfl, ho, hb⟩
    exact ⟨r, rfl, Bytes.ofOwn ho (spl_isB 4 1 (by decide)), hb⟩))
  have q2 : Hid (∀ (v : Value) W, Bytes W v (spl 4 1) → Calls Try.prog 23 #[v, .int .i64 kind, .int .i64 1] W fun e w' => ∃ r, e = .returned r ∧ Bytes w' r (h1F kind) ∧ Below W.heap.size W w') := hide_ (fun v W h => (rput_any v _ kind 1 W h (by simp [spl_len]) ha).mono (by
    rintro e w' ⟨r, rfl, ho, hb⟩
    exact ⟨r, rfl, Bytes.ofOwn ho i1, hb⟩))
  have q3 : Hid (∀ (v : Value) W, Bytes W v (h1F kind) → Calls Try.prog 23 #[v, .int .i64 (8 + (body.length : Int)), .int .i64 2] W fun e w' => ∃ r, e = .returned r ∧ Bytes w' r (h2F kind body.length) ∧ Below W.heap.size W w') := hide_ (fun v W h => (rput_any v _ (8 + (body.length : Int)) 2 W h (by rw [l1]; omega) r2).mono (by
    rintro e w' ⟨r, rfl, ho, hb⟩
    exact ⟨r, rfl, Bytes.ofOwn ho i2, hb⟩))
  have q4 : Hid (∀ (v : Value) W, Bytes W v (h2F kind body.length) → Calls Try.prog 23 #[v, .int .i64 xid, .int .i64 4] W fun e w' => ∃ r, e = .returned r ∧ w'.ownsRow W.heap.size 5 1 r 8 (u8s (h3F kind xid body.length)) ∧ Below W.heap.size W w') := hide_ (fun v W h => (rput_any v _ xid 4 W h (by rw [l2]; omega) hb).mono (by
    rintro e w' ⟨r, rfl, ho, hb⟩
    refine ⟨r, rfl, ?_, hb⟩
    have := ho
    rw [show (h2F kind body.length ++ spl xid 4) = h3F kind xid body.length from rfl, l3] at this
    exact this))
  have HI := hide_ (And.intro i1 (And.intro i2 i3))
  have HL := hide_ (And.intro l1 (And.intro l2 l3))
  have HB := hide_ hB
  obtain ⟨ao, cap, rfl, h1, h2, -⟩ := hB
  have hc' : ¬ (65527 : Int) < (body.length : Int) := by omega
  obtain ⟨i0, hi0, hz0, hz1, hz2⟩ := info_parts info5
  have HN : Hid (Try.prog.info? 5 = some i0 ∧ i0.zero = some (.int .u8 0) ∧ i0.size = 1 ∧ i0.bytes = 1) := ⟨hi0, hz0, hz1, hz2⟩
  clear h1 h2 i1 i2 i3 l1 l2 l3 r2 ha hb hi0 hz0 hz1 hz2
  go_enter Try.func24, Try.ntmps24
  go_wp2_with (first | (first | (go_at_call_of 21 (Value.int .i64 xid); refine (gr2 _).mono ?_; rintro e w9 ⟨rfl, rfl⟩) | (go_at_call_of 21 (Value.int .i64 kind); refine (gr1 _).mono ?_; rintro e w9 ⟨rfl, rfl⟩)) | (go_at_call 23; first | (refine (q4.out _ _ h3.out).mono ?_; rintro e w4 ⟨r4, rfl, o4, b4⟩; obtain ⟨g4, c4, e4, -, -⟩ := own_form o4 (by omega); subst e4; have k4 := hide_ (k3.out.trans (b4.mono k3.out.size)); have o4 := hide_ (ownsRow_base o4 k3.out.size); clear b4) | (refine (q3.out _ _ h2.out).mono ?_; rintro e w3 ⟨r3, rfl, h3, b3⟩; have k3 := hide_ (k2.out.trans (b3.mono k2.out.size)); have h3 := hide_ h3; clear b3) | (refine (q2.out _ _ h1.out).mono ?_; rintro e w2 ⟨r2, rfl, h2, b2⟩; have k2 := hide_ (k1.out.trans (b2.mono k1.out.size)); have h2 := hide_ h2; clear b2) | (refine (q1.out _).mono ?_; rintro e w1 ⟨r1, rfl, h1, b1⟩; have k1 := hide_ b1; have h1 := hide_ h1; clear b1)) | (at_builtin; refine wpList_append_ownB rfl (.tmp 31) (.tmp 32) 24 rfl w.heap.size 5 i0 Try.underlying24 HN.out.1 HN.out.2.1 HN.out.2.2.1 HN.out.2.2.2 (.slice (some ⟨g4, 0, none⟩) 8 c4) 8 (u8s (h3F kind xid body.length)) (by simp [Act.eval, Act.put]) o4.out (.slice ao body.length cap) body (by simp [Act.eval, Act.put]) (HB.out.later k4.out) (by omega) k4.out.size ?_; intro v5 w5 own5 hg5; have own5 := hide_ own5; have k5 := hide_ (k4.out.trans (below_grown hg5 _ k4.out.size (fun k e => (own_block_lt o4.out e).1)))))
  go_ret2
  refine ⟨_, by first | rfl | simp, ?_, k5.out⟩
  have := own5.out
  rw [← u8s_append] at this
  exact this

end Go.Proofs.Ytfeioclnhnipmaa
