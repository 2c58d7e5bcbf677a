import Derived.Test.YtfeioclnhnipmaaPd
import Derived.Deep.RegionHeld3
import Derived.Deep.RegionWith
import Derived.Deep.MidRow
import Derived.Deep.Cut
namespace Go.Proofs.Ytfeioclnhnipmaa
open Go Go.RowKit
set_option linter.unusedVariables false
set_option linter.unusedSimpArgs false

set_option maxRecDepth 100000 in
set_option maxHeartbeats 8000000 in
theorem rfreply_y0 (o : Bool) (t c : Int) (v : Value) (m : List Int) (w : World) (hB : Bytes w v m) (h : replyR o t c = true) (hy : m.length < 8) :
    Calls Try.prog 9 #[.agg #[.bool o, .int .i64 t, .int .i64 c], v] w fun e w' => ∃ a cc, e = .returned (.slice a (replyF t c m).length cc) ∧ w'.ownsRow w.heap.size 5 1 (.slice a (replyF t c m).length cc) (replyF t c m).length (u8s (replyF t c m)) ∧ Below w.heap.size w w' := by
  have hx : be4 m 4 = 0 := by unfold be4; rw [if_neg (by omega)]
  have h8 : ¬ (8 : Int) ≤ (m.length : Int) := by omega
  obtain rfl : o = true := by unfold replyR at h; cases o <;> simp_all
  obtain ⟨ao, cap, rfl⟩ := hB.short
  have hm := hB.isB_
  obtain ⟨-, sl, hT⟩ := bytes_take hB m.length (by omega)
  have e64 : m.take m.length = m.take 64 := by rw [List.take_of_length_le (Nat.le_refl _), List.take_of_length_le (by omega)]
  rw [e64] at hT
  have B0 := hide_ (below1 w (.cells #[.bool true, .int .i64 t, .int .i64 c] 23))
  have A0 := hide_ (AB.at0 w 23 [.bool true, .int .i64 t, .int .i64 c])
  obtain ⟨y0, y1, y2, -⟩ := A0.out.three
  unfold replyR at h
  simp only [Bool.and_eq_true] at h
  obtain ⟨⟨-, ha⟩, hb⟩ := h
  have gr1 := fun w => rright_any t 2 w
  have gr2 := fun w => rright_any c 2 w
  rw [ha] at gr1
  rw [hb] at gr2
  have qg : Hid (∀ W, Below w.heap.size w W → Calls Try.prog 22 #[.slice ao m.length cap, .int .i64 4, .int .i64 4] W fun e w' => ∃ er, e = .returned (.tuple #[.int .i64 (be4 m 4), .int .i64 er]) ∧ Below W.heap.size W w') := hide_ (fun W hW => (rnget4 (.slice ao m.length cap) m 4 W (hB.later hW) (by omega)).mono (by rintro e w' ⟨er, rfl, rfl⟩; exact ⟨er, rfl, Below.refl _ _⟩))
  have q1 : Hid (∀ W, Calls Try.prog 23 #[.slice none 0 0, .int .i64 t, .int .i64 2] W fun e w' => ∃ r, e = .returned r ∧ Bytes w' r (spl t 2) ∧ Below W.heap.size W w') := hide_ (fun W => (rput_any (.slice none 0 0) [] t 2 W (Bytes.nil W) (by simp) ha).mono (by
    rintro e w' ⟨r, rfl, ho, hb⟩
    exact ⟨r, rfl, Bytes.ofOwn ho (spl_isB t 2 ha), hb⟩))
  have q2 : Hid (∀ (v : Value) W, Bytes W v (spl t 2) → Calls Try.prog 23 #[v, .int .i64 c, .int .i64 2] W fun e w' => ∃ g cc, e = .returned (.slice (some ⟨g, 0, none⟩) 4 cc) ∧ w'.ownsRow W.heap.size 5 1 (.slice (some ⟨g, 0, none⟩) 4 cc) 4 (u8s (codesF t c)) ∧ Below W.heap.size W w') := hide_ (fun v W h => (rput_any v (spl t 2) c 2 W h (by simp [spl_len]) hb).mono (by
    rintro e w' ⟨r, rfl, ho, hb⟩
    have := ho
    rw [show (spl t 2 ++ spl c 2) = codesF t c from rfl, codesF_len] at this
    obtain ⟨g, cc, rfl, -, -⟩ := own_form this (by decide)
    exact ⟨g, cc, rfl, this, hb⟩))
  have hlen : 8 + (bodyF t c m).length = (replyF t c m).length := by rw [replyF_len, bodyF_len]; omega
  have q3 : Hid (∀ (v : Value) W, Bytes W v (bodyF t c m) → Calls Try.prog 24 #[.int .i64 1, .int .i64 (be4 m 4), v] W fun e w' => ∃ a cc, e = .returned (.tuple #[.slice a (replyF t c m).length cc, .int .i64 0]) ∧ w'.ownsRow W.heap.size 5 1 (.slice a (replyF t c m).length cc) (replyF t c m).length (u8s (replyF t c m)) ∧ Below W.heap.size W w') := hide_ (fun v W h => (rhead_yes 1 (be4 m 4) v (bodyF t c m) W h (bodyF_headR hm)).mono (by
    rintro e w' ⟨r, rfl, ho, hb'⟩
    rw [show headF 1 (be4 m 4) (bodyF t c m) = replyF t c m from rfl, hlen] at ho
    obtain ⟨a, cc, e⟩ := (Bytes.ofOwn (l := replyF t c m) ho (replyF_isB ha hb hm)).short
    subst e
    exact ⟨a, cc, rfl, ho, hb'⟩))
  obtain ⟨i0, hi0, hz0, hz1, hz2⟩ := info_parts info5
  have HN : Hid (Try.prog.info? 5 = some i0 ∧ i0.zero = some (.int .u8 0) ∧ i0.size = 1 ∧ i0.bytes = 1) := ⟨hi0, hz0, hz1, hz2⟩
  have HT := hide_ hT
  have HI := hide_ (bodyF_isB ha hb hm)
  have HM := hide_ (show (m.take 64).length ≤ 64 by rw [List.length_take]; omega)
  have HS := hide_ (show m.length = (m.take 64).length by rw [List.length_take]; omega)
  have HL := hide_ (show 4 + (m.take 64).length = (bodyF t c m).length by rw [bodyF_len, List.length_take])
  have hmx := hB.big
  have sl : ∀ wx, (Instr.slice 24 (.slice ao m.length cap) none (some (.int .i64 (m.length : Int))) none).run Try.prog wx = .ok (.slice ao m.length cap) wx := sl
  have hle : ¬ (64 : Int) ≤ (m.length : Int) := by omega
  generalize (replyF t c m).length = N at q3 ⊢
  clear hB hT ha hb hm hi0 hz0 hz1 hz2 hlen e64
  rw [hx] at q3
  clear hx hy
  go_enter Try.func9, Try.ntmps9
  go_upto_region 6 with (first | (first | (go_at_call_of 21 (Value.int .i64 c); refine (gr2 _).mono ?_; rintro e w9 ⟨rfl, rfl⟩) | (go_at_call_of 21 (Value.int .i64 t); refine (gr1 _).mono ?_; rintro e w9 ⟨rfl, rfl⟩)) | (go_at_call 22; refine (qg.out _ B0.out).mono ?_; rintro e w1 ⟨er, rfl, b1⟩; have k1 := hide_ (B0.out.trans (b1.mono B0.out.size)); have A1 := hide_ (A0.out.later b1); obtain ⟨x0, x1, x2, -⟩ := A1.out.three; clear b1))
  have k1 := hide_ B0.out
  obtain ⟨x0, x1, x2, -⟩ := A0.out.three
  generalize w.alloc (.cells #[.bool true, .int .i64 t, .int .i64 c] 23) = w1 at *
  refine wp_region_held_drew (S := (fun w' => Below w1.heap.size w1 w')) (by kernel_rfl) ((Below.refl _ _).drew) (fun hHeld => ?_)
  have kb0 : Below w1.heap.size w1 w1.drew := (Below.refl _ _).drew
  generalize w1.drew = D0 at *
  refine takeR (i := 0) (v := ?_) rfl (by kernel_rfl) (by kernel_rfl) (by kernel_rfl) (some 32) rfl (Or.inl ⟨by rfl, ?_⟩) (fun _ _ _ h => h) (by assumption) ?_
  rotate_left
  · intro w hSw; (try dsimp only at hSw); go_simp; (try with_reducible rfl)
  simp only [Act.put, List.setIfInBounds_toArray, List.set_cons_zero, List.set_cons_succ]
  refine takeR (i := 1) (v := ?_) rfl (by kernel_rfl) (by kernel_rfl) (by kernel_rfl) (some 33) rfl (Or.inl ⟨by rfl, ?_⟩) (fun _ _ _ h => h) (by assumption) ?_
  rotate_left
  · intro w hSw; (try dsimp only at hSw); have hc := cell_later hSw x1; go_simp; (try with_reducible rfl)
  simp only [Act.put, List.setIfInBounds_toArray, List.set_cons_zero, List.set_cons_succ]
  refine takeR (i := 3) (v := ?_) rfl (by kernel_rfl) (by kernel_rfl) (by kernel_rfl) (some 35) rfl (Or.inl ⟨by rfl, ?_⟩) (fun _ _ _ h => h) (by assumption) ?_
  rotate_left
  · intro w hSw; (try dsimp only at hSw); go_simp; (try with_reducible rfl)
  simp only [Act.put, List.setIfInBounds_toArray, List.set_cons_zero, List.set_cons_succ]
  refine takeR (i := 4) (v := ?_) rfl (by kernel_rfl) (by kernel_rfl) (by kernel_rfl) (some 36) rfl (Or.inl ⟨by rfl, ?_⟩) (fun _ _ _ h => h) (by assumption) ?_
  rotate_left
  · intro w hSw; (try dsimp only at hSw); have hc := cell_later hSw x2; go_simp; (try with_reducible rfl)
  simp only [Act.put, List.setIfInBounds_toArray, List.set_cons_zero, List.set_cons_succ]
  refine wpAnyH_ready (rs := [2]) (by kernel_rfl) (by simp) ?_
  refine AllReadyH.cons rfl (fun K hK => ?_) (AllReadyH.nil)
  go_simp
  go_at_call 23
  refine (q1.out _).mono ?_
  rintro e D1 ⟨r2, rfl, h2, bj⟩
  have h2 := hide_ h2
  refine hK.out _ _ (kb0.trans (bj.mono kb0.size)) (fun hHeld => ?_)
  clear hK K
  try simp only [Act.put, List.setIfInBounds_toArray, List.set_cons_zero, List.set_cons_succ]
  have kb1 := kb0.trans (bj.mono kb0.size)
  clear bj
  refine wpAnyH_ready (rs := [5]) (by kernel_rfl) (by simp) ?_
  refine AllReadyH.cons rfl (fun K hK => ?_) (AllReadyH.nil)
  go_simp
  go_at_call 23
  refine (q2.out _ _ h2.out).mono ?_
  rintro e D2 ⟨g3, c3, rfl, o3, bj⟩
  have o3 := hide_ (ownsRow_base o3 (Nat.le_trans k1.out.size (kb1).size))
  refine hK.out _ _ (kb1.trans (bj.mono kb1.size)) (fun hHeld => ?_)
  clear hK K
  try simp only [Act.put, List.setIfInBounds_toArray, List.set_cons_zero, List.set_cons_succ]
  have kb2 := kb1.trans (bj.mono kb1.size)
  clear bj
  refine takeR (i := 6) (v := ?_) rfl (by kernel_rfl) (by kernel_rfl) (by kernel_rfl) (some 6) rfl (Or.inl ⟨by rfl, ?_⟩) (fun _ _ _ h => h) (by assumption) ?_
  rotate_left
  · intro w hSw; (try dsimp only at hSw); go_simp; (try with_reducible rfl)
  simp only [Act.put, List.setIfInBounds_toArray, List.set_cons_zero, List.set_cons_succ]
  refine wpAnyH_done (by kernel_rfl) ?_ _
  have k3 := hide_ (k1.out.trans ((kb2).mono k1.out.size))
  go_wp2_with (first | (at_builtin; refine wpList_append_ownB rfl (.tmp 40) (.tmp 45) 24 rfl w.heap.size 5 i0 Try.underlying24 HN.out.1 HN.out.2.1 HN.out.2.2.1 HN.out.2.2.2 (.slice (some ⟨g3, 0, none⟩) 4 c3) 4 (u8s (codesF t c)) (by simp [Act.eval, Act.put]) o3.out (.slice ao m.length cap) (m.take 64) (by simp [Act.eval, Act.put]) (HT.out.later k3.out) (by have := HM.out; omega) k3.out.size ?_; intro v5 w5 own5 hg5; have k5 := hide_ (k3.out.trans (below_grown hg5 _ k3.out.size (fun k e => (own_block_lt o3.out e).1))); have h5 : Hid (Bytes w5 v5 (bodyF t c m)) := hide_ (Bytes.ofOwn (by rw [← u8s_append, HL.out] at own5; exact own5) HI.out); clear own5 hg5) | (go_at_call 24; refine (q3.out _ _ h5.out).mono ?_; rintro e w6 ⟨a6, c6, rfl, o6, b6⟩; have k6 := hide_ (k5.out.trans (b6.mono k5.out.size)); have o6 := hide_ (ownsRow_base o6 k5.out.size); clear b6))
  go_ret
  exact ⟨a6, c6, by first | rfl | simp, o6.out, k6.out⟩

set_option maxRecDepth 100000 in
set_option maxHeartbeats 8000000 in
theorem rfreply_y1 (o : Bool) (t c : Int) (v : Value) (m : List Int) (w : World) (hB : Bytes w v m) (h : replyR o t c = true) (hy : 8 ≤ m.length ∧ m.length < 64) :
    Calls Try.prog 9 #[.agg #[.bool o, .int .i64 t, .int .i64 c], v] w fun e w' => ∃ a cc, e = .returned (.slice a (replyF t c m).length cc) ∧ w'.ownsRow w.heap.size 5 1 (.slice a (replyF t c m).length cc) (replyF t c m).length (u8s (replyF t c m)) ∧ Below w.heap.size w w' := by
  have h8 : (8 : Int) ≤ (m.length : Int) := by omega
  obtain rfl : o = true := by unfold replyR at h; cases o <;> simp_all
  obtain ⟨ao, cap, rfl⟩ := hB.short
  have hm := hB.isB_
  obtain ⟨-, sl, hT⟩ := bytes_take hB m.length (by omega)
  have e64 : m.take m.length = m.take 64 := by rw [List.take_of_length_le (Nat.le_refl _), List.take_of_length_le (by omega)]
  rw [e64] at hT
  have B0 := hide_ (below1 w (.cells #[.bool true, .int .i64 t, .int .i64 c] 23))
  have A0 := hide_ (AB.at0 w 23 [.bool true, .int .i64 t, .int .i64 c])
  obtain ⟨y0, y1, y2, -⟩ := A0.out.three
  unfold replyR at h
  simp only [Bool.and_eq_true] at h
  obtain ⟨⟨-, ha⟩, hb⟩ := h
  have gr1 := fun w => rright_any t 2 w
  have gr2 := fun w => rright_any c 2 w
  rw [ha] at gr1
  rw [hb] at gr2
  have qg : Hid (∀ W, Below w.heap.size w W → Calls Try.prog 22 #[.slice ao m.length cap, .int .i64 4, .int .i64 4] W fun e w' => ∃ er, e = .returned (.tuple #[.int .i64 (be4 m 4), .int .i64 er]) ∧ Below W.heap.size W w') := hide_ (fun W hW => (rnget4 (.slice ao m.length cap) m 4 W (hB.later hW) (by omega)).mono (by rintro e w' ⟨er, rfl, rfl⟩; exact ⟨er, rfl, Below.refl _ _⟩))
  have q1 : Hid (∀ W, Calls Try.prog 23 #[.slice none 0 0, .int .i64 t, .int .i64 2] W fun e w' => ∃ r, e = .returned r ∧ Bytes w' r (spl t 2) ∧ Below W.heap.size W w') := hide_ (fun W => (rput_any (.slice none 0 0) [] t 2 W (Bytes.nil W) (by simp) ha).mono (by
    rintro e w' ⟨r, rfl, ho, hb⟩
    exact ⟨r, rfl, Bytes.ofOwn ho (spl_isB t 2 ha), hb⟩))
  have q2 : Hid (∀ (v : Value) W, Bytes W v (spl t 2) → Calls Try.prog 23 #[v, .int .i64 c, .int .i64 2] W fun e w' => ∃ g cc, e = .returned (.slice (some ⟨g, 0, none⟩) 4 cc) ∧ w'.ownsRow W.heap.size 5 1 (.slice (some ⟨g, 0, none⟩) 4 cc) 4 (u8s (codesF t c)) ∧ Below W.heap.size W w') := hide_ (fun v W h => (rput_any v (spl t 2) c 2 W h (by simp [spl_len]) hb).mono (by
    rintro e w' ⟨r, rfl, ho, hb⟩
    have := ho
    rw [show (spl t 2 ++ spl c 2) = codesF t c from rfl, codesF_len] at this
    obtain ⟨g, cc, rfl, -, -⟩ := own_form this (by decide)
    exact ⟨g, cc, rfl, this, hb⟩))
  have hlen : 8 + (bodyF t c m).length = (replyF t c m).length := by rw [replyF_len, bodyF_len]; omega
  have q3 : Hid (∀ (v : Value) W, Bytes W v (bodyF t c m) → Calls Try.prog 24 #[.int .i64 1, .int .i64 (be4 m 4), v] W fun e w' => ∃ a cc, e = .returned (.tuple #[.slice a (replyF t c m).length cc, .int .i64 0]) ∧ w'.ownsRow W.heap.size 5 1 (.slice a (replyF t c m).length cc) (replyF t c m).length (u8s (replyF t c m)) ∧ Below W.heap.size W w') := hide_ (fun v W h => (rhead_yes 1 (be4 m 4) v (bodyF t c m) W h (bodyF_headR hm)).mono (by
    rintro e w' ⟨r, rfl, ho, hb'⟩
    rw [show headF 1 (be4 m 4) (bodyF t c m) = replyF t c m from rfl, hlen] at ho
    obtain ⟨a, cc, e⟩ := (Bytes.ofOwn (l := replyF t c m) ho (replyF_isB ha hb hm)).short
    subst e
    exact ⟨a, cc, rfl, ho, hb'⟩))
  obtain ⟨i0, hi0, hz0, hz1, hz2⟩ := info_parts info5
  have HN : Hid (Try.prog.info? 5 = some i0 ∧ i0.zero = some (.int .u8 0) ∧ i0.size = 1 ∧ i0.bytes = 1) := ⟨hi0, hz0, hz1, hz2⟩
  have HT := hide_ hT
  have HI := hide_ (bodyF_isB ha hb hm)
  have HM := hide_ (show (m.take 64).length ≤ 64 by rw [List.length_take]; omega)
  have HS := hide_ (show m.length = (m.take 64).length by rw [List.length_take]; omega)
  have HL := hide_ (show 4 + (m.take 64).length = (bodyF t c m).length by rw [bodyF_len, List.length_take])
  have hmx := hB.big
  have sl : ∀ wx, (Instr.slice 24 (.slice ao m.length cap) none (some (.int .i64 (m.length : Int))) none).run Try.prog wx = .ok (.slice ao m.length cap) wx := sl
  have hle : ¬ (64 : Int) ≤ (m.length : Int) := by omega
  generalize (replyF t c m).length = N at q3 ⊢
  clear hB hT ha hb hm hi0 hz0 hz1 hz2 hlen e64

  clear hy
  go_enter Try.func9, Try.ntmps9
  go_upto_region 6 with (first | (first | (go_at_call_of 21 (Value.int .i64 c); refine (gr2 _).mono ?_; rintro e w9 ⟨rfl, rfl⟩) | (go_at_call_of 21 (Value.int .i64 t); refine (gr1 _).mono ?_; rintro e w9 ⟨rfl, rfl⟩)) | (go_at_call 22; refine (qg.out _ B0.out).mono ?_; rintro e w1 ⟨er, rfl, b1⟩; have k1 := hide_ (B0.out.trans (b1.mono B0.out.size)); have A1 := hide_ (A0.out.later b1); obtain ⟨x0, x1, x2, -⟩ := A1.out.three; clear b1))



  refine wp_region_held_drew (S := (fun w' => Below w1.heap.size w1 w')) (by kernel_rfl) ((Below.refl _ _).drew) (fun hHeld => ?_)
  have kb0 : Below w1.heap.size w1 w1.drew := (Below.refl _ _).drew
  generalize w1.drew = D0 at *
  refine takeR (i := 0) (v := ?_) rfl (by kernel_rfl) (by kernel_rfl) (by kernel_rfl) (some 32) rfl (Or.inl ⟨by rfl, ?_⟩) (fun _ _ _ h => h) (by assumption) ?_
  rotate_left
  · intro w hSw; (try dsimp only at hSw); go_simp; (try with_reducible rfl)
  simp only [Act.put, List.setIfInBounds_toArray, List.set_cons_zero, List.set_cons_succ]
  refine takeR (i := 1) (v := ?_) rfl (by kernel_rfl) (by kernel_rfl) (by kernel_rfl) (some 33) rfl (Or.inl ⟨by rfl, ?_⟩) (fun _ _ _ h => h) (by assumption) ?_
  rotate_left
  · intro w hSw; (try dsimp only at hSw); have hc := cell_later hSw x1; go_simp; (try with_reducible rfl)
  simp only [Act.put, List.setIfInBounds_toArray, List.set_cons_zero, List.set_cons_succ]
  refine takeR (i := 3) (v := ?_) rfl (by kernel_rfl) (by kernel_rfl) (by kernel_rfl) (some 35) rfl (Or.inl ⟨by rfl, ?_⟩) (fun _ _ _ h => h) (by assumption) ?_
  rotate_left
  · intro w hSw; (try dsimp only at hSw); go_simp; (try with_reducible rfl)
  simp only [Act.put, List.setIfInBounds_toArray, List.set_cons_zero, List.set_cons_succ]
  refine takeR (i := 4) (v := ?_) rfl (by kernel_rfl) (by kernel_rfl) (by kernel_rfl) (some 36) rfl (Or.inl ⟨by rfl, ?_⟩) (fun _ _ _ h => h) (by assumption) ?_
  rotate_left
  · intro w hSw; (try dsimp only at hSw); have hc := cell_later hSw x2; go_simp; (try with_reducible rfl)
  simp only [Act.put, List.setIfInBounds_toArray, List.set_cons_zero, List.set_cons_succ]
  refine wpAnyH_ready (rs := [2]) (by kernel_rfl) (by simp) ?_
  refine AllReadyH.cons rfl (fun K hK => ?_) (AllReadyH.nil)
  go_simp
  go_at_call 23
  refine (q1.out _).mono ?_
  rintro e D1 ⟨r2, rfl, h2, bj⟩
  have h2 := hide_ h2
  refine hK.out _ _ (kb0.trans (bj.mono kb0.size)) (fun hHeld => ?_)
  clear hK K
  try simp only [Act.put, List.setIfInBounds_toArray, List.set_cons_zero, List.set_cons_succ]
  have kb1 := kb0.trans (bj.mono kb0.size)
  clear bj
  refine wpAnyH_ready (rs := [5]) (by kernel_rfl) (by simp) ?_
  refine AllReadyH.cons rfl (fun K hK => ?_) (AllReadyH.nil)
  go_simp
  go_at_call 23
  refine (q2.out _ _ h2.out).mono ?_
  rintro e D2 ⟨g3, c3, rfl, o3, bj⟩
  have o3 := hide_ (ownsRow_base o3 (Nat.le_trans k1.out.size (kb1).size))
  refine hK.out _ _ (kb1.trans (bj.mono kb1.size)) (fun hHeld => ?_)
  clear hK K
  try simp only [Act.put, List.setIfInBounds_toArray, List.set_cons_zero, List.set_cons_succ]
  have kb2 := kb1.trans (bj.mono kb1.size)
  clear bj
  refine takeR (i := 6) (v := ?_) rfl (by kernel_rfl) (by kernel_rfl) (by kernel_rfl) (some 6) rfl (Or.inl ⟨by rfl, ?_⟩) (fun _ _ _ h => h) (by assumption) ?_
  rotate_left
  · intro w hSw; (try dsimp only at hSw); go_simp; (try with_reducible rfl)
  simp only [Act.put, List.setIfInBounds_toArray, List.set_cons_zero, List.set_cons_succ]
  refine wpAnyH_done (by kernel_rfl) ?_ _
  have k3 := hide_ (k1.out.trans ((kb2).mono k1.out.size))
  go_wp2_with (first | (at_builtin; refine wpList_append_ownB rfl (.tmp 40) (.tmp 45) 24 rfl w.heap.size 5 i0 Try.underlying24 HN.out.1 HN.out.2.1 HN.out.2.2.1 HN.out.2.2.2 (.slice (some ⟨g3, 0, none⟩) 4 c3) 4 (u8s (codesF t c)) (by simp [Act.eval, Act.put]) o3.out (.slice ao m.length cap) (m.take 64) (by simp [Act.eval, Act.put]) (HT.out.later k3.out) (by have := HM.out; omega) k3.out.size ?_; intro v5 w5 own5 hg5; have k5 := hide_ (k3.out.trans (below_grown hg5 _ k3.out.size (fun k e => (own_block_lt o3.out e).1))); have h5 : Hid (Bytes w5 v5 (bodyF t c m)) := hide_ (Bytes.ofOwn (by rw [← u8s_append, HL.out] at own5; exact own5) HI.out); clear own5 hg5) | (go_at_call 24; refine (q3.out _ _ h5.out).mono ?_; rintro e w6 ⟨a6, c6, rfl, o6, b6⟩; have k6 := hide_ (k5.out.trans (b6.mono k5.out.size)); have o6 := hide_ (ownsRow_base o6 k5.out.size); clear b6))
  go_ret
  exact ⟨a6, c6, by first | rfl | simp, o6.out, k6.out⟩

set_option maxRecDepth 100000 in
set_option maxHeartbeats 8000000 in
theorem rfreply_y2 (o : Bool) (t c : Int) (v : Value) (m : List Int) (w : World) (hB : Bytes w v m) (h : replyR o t c = true) (hy : 64 ≤ m.length) :
    Calls Try.prog 9 #[.agg #[.bool o, .int .i64 t, .int .i64 c], v] w fun e w' => ∃ a cc, e = .returned (.slice a (replyF t c m).length cc) ∧ w'.ownsRow w.heap.size 5 1 (.slice a (replyF t c m).length cc) (replyF t c m).length (u8s (replyF t c m)) ∧ Below w.heap.size w w' := by
  have h8 : (8 : Int) ≤ (m.length : Int) := by omega
  obtain rfl : o = true := by unfold replyR at h; cases o <;> simp_all
  obtain ⟨ao, cap, rfl⟩ := hB.short
  have hm := hB.isB_
  obtain ⟨-, sl, hT⟩ := bytes_take hB 64 (by omega)
  have e64 : m.take 64 = m.take 64 := by rfl
  rw [e64] at hT
  have B0 := hide_ (below1 w (.cells #[.bool true, .int .i64 t, .int .i64 c] 23))
  have A0 := hide_ (AB.at0 w 23 [.bool true, .int .i64 t, .int .i64 c])
  obtain ⟨y0, y1, y2, -⟩ := A0.out.three
  unfold replyR at h
  simp only [Bool.and_eq_true] at h
  obtain ⟨⟨-, ha⟩, hb⟩ := h
  have gr1 := fun w => rright_any t 2 w
  have gr2 := fun w => rright_any c 2 w
  rw [ha] at gr1
  rw [hb] at gr2
  have qg : Hid (∀ W, Below w.heap.size w W → Calls Try.prog 22 #[.slice ao m.length cap, .int .i64 4, .int .i64 4] W fun e w' => ∃ er, e = .returned (.tuple #[.int .i64 (be4 m 4), .int .i64 er]) ∧ Below W.heap.size W w') := hide_ (fun W hW => (rnget4 (.slice ao m.length cap) m 4 W (hB.later hW) (by omega)).mono (by rintro e w' ⟨er, rfl, rfl⟩; exact ⟨er, rfl, Below.refl _ _⟩))
  have q1 : Hid (∀ W, Calls Try.prog 23 #[.slice none 0 0, .int .i64 t, .int .i64 2] W fun e w' => ∃ r, e = .returned r ∧ Bytes w' r (spl t 2) ∧ Below W.heap.size W w') := hide_ (fun W => (rput_any (.slice none 0 0) [] t 2 W (Bytes.nil W) (by simp) ha).mono (by
    rintro e w' ⟨r, rfl, ho, hb⟩
    exact ⟨r, rfl, Bytes.ofOwn ho (spl_isB t 2 ha), hb⟩))
  have q2 : Hid (∀ (v : Value) W, Bytes W v (spl t 2) → Calls Try.prog 23 #[v, .int .i64 c, .int .i64 2] W fun e w' => ∃ g cc, e = .returned (.slice (some ⟨g, 0, none⟩) 4 cc) ∧ w'.ownsRow W.heap.size 5 1 (.slice (some ⟨g, 0, none⟩) 4 cc) 4 (u8s (codesF t c)) ∧ Below W.heap.size W w') := hide_ (fun v W h => (rput_any v (spl t 2) c 2 W h (by simp [spl_len]) hb).mono (by
    rintro e w' ⟨r, rfl, ho, hb⟩
    have := ho
    rw [show (spl t 2 ++ spl c 2) = codesF t c from rfl, codesF_len] at this
    obtain ⟨g, cc, rfl, -, -⟩ := own_form this (by decide)
    exact ⟨g, cc, rfl, this, hb⟩))
  have hlen : 8 + (bodyF t c m).length = (replyF t c m).length := by rw [replyF_len, bodyF_len]; omega
  have q3 : Hid (∀ (v : Value) W, Bytes W v (bodyF t c m) → Calls Try.prog 24 #[.int .i64 1, .int .i64 (be4 m 4), v] W fun e w' => ∃ a cc, e = .returned (.tuple #[.slice a (replyF t c m).length cc, .int .i64 0]) ∧ w'.ownsRow W.heap.size 5 1 (.slice a (replyF t c m).length cc) (replyF t c m).length (u8s (replyF t c m)) ∧ Below W.heap.size W w') := hide_ (fun v W h => (rhead_yes 1 (be4 m 4) v (bodyF t c m) W h (bodyF_headR hm)).mono (by
    rintro e w' ⟨r, rfl, ho, hb'⟩
    rw [show headF 1 (be4 m 4) (bodyF t c m) = replyF t c m from rfl, hlen] at ho
    obtain ⟨a, cc, e⟩ := (Bytes.ofOwn (l := replyF t c m) ho (replyF_isB ha hb hm)).short
    subst e
    exact ⟨a, cc, rfl, ho, hb'⟩))
  obtain ⟨i0, hi0, hz0, hz1, hz2⟩ := info_parts info5
  have HN : Hid (Try.prog.info? 5 = some i0 ∧ i0.zero = some (.int .u8 0) ∧ i0.size = 1 ∧ i0.bytes = 1) := ⟨hi0, hz0, hz1, hz2⟩
  have HT := hide_ hT
  have HI := hide_ (bodyF_isB ha hb hm)
  have HM := hide_ (show (m.take 64).length ≤ 64 by rw [List.length_take]; omega)
  have HS := hide_ (show 64 = (m.take 64).length by rw [List.length_take]; omega)
  have HL := hide_ (show 4 + (m.take 64).length = (bodyF t c m).length by rw [bodyF_len, List.length_take])
  have hmx := hB.big
  have sl : ∀ wx, (Instr.slice 24 (.slice ao m.length cap) none (some (.int .i64 64)) none).run Try.prog wx = .ok (.slice ao 64 cap) wx := sl
  have hle : ¬ ¬ (64 : Int) ≤ (m.length : Int) := by omega
  generalize (replyF t c m).length = N at q3 ⊢
  clear hB hT ha hb hm hi0 hz0 hz1 hz2 hlen e64

  clear hy
  go_enter Try.func9, Try.ntmps9
  go_upto_region 6 with (first | (first | (go_at_call_of 21 (Value.int .i64 c); refine (gr2 _).mono ?_; rintro e w9 ⟨rfl, rfl⟩) | (go_at_call_of 21 (Value.int .i64 t); refine (gr1 _).mono ?_; rintro e w9 ⟨rfl, rfl⟩)) | (go_at_call 22; refine (qg.out _ B0.out).mono ?_; rintro e w1 ⟨er, rfl, b1⟩; have k1 := hide_ (B0.out.trans (b1.mono B0.out.size)); have A1 := hide_ (A0.out.later b1); obtain ⟨x0, x1, x2, -⟩ := A1.out.three; clear b1))



  refine wp_region_held_drew (S := (fun w' => Below w1.heap.size w1 w')) (by kernel_rfl) ((Below.refl _ _).drew) (fun hHeld => ?_)
  have kb0 : Below w1.heap.size w1 w1.drew := (Below.refl _ _).drew
  generalize w1.drew = D0 at *
  refine takeR (i := 0) (v := ?_) rfl (by kernel_rfl) (by kernel_rfl) (by kernel_rfl) (some 32) rfl (Or.inl ⟨by rfl, ?_⟩) (fun _ _ _ h => h) (by assumption) ?_
  rotate_left
  · intro w hSw; (try dsimp only at hSw); go_simp; (try with_reducible rfl)
  simp only [Act.put, List.setIfInBounds_toArray, List.set_cons_zero, List.set_cons_succ]
  refine takeR (i := 1) (v := ?_) rfl (by kernel_rfl) (by kernel_rfl) (by kernel_rfl) (some 33) rfl (Or.inl ⟨by rfl, ?_⟩) (fun _ _ _ h => h) (by assumption) ?_
  rotate_left
  · intro w hSw; (try dsimp only at hSw); have hc := cell_later hSw x1; go_simp; (try with_reducible rfl)
  simp only [Act.put, List.setIfInBounds_toArray, List.set_cons_zero, List.set_cons_succ]
  refine takeR (i := 3) (v := ?_) rfl (by kernel_rfl) (by kernel_rfl) (by kernel_rfl) (some 35) rfl (Or.inl ⟨by rfl, ?_⟩) (fun _ _ _ h => h) (by assumption) ?_
  rotate_left
  · intro w hSw; (try dsimp only at hSw); go_simp; (try with_reducible rfl)
  simp only [Act.put, List.setIfInBounds_toArray, List.set_cons_zero, List.set_cons_succ]
  refine takeR (i := 4) (v := ?_) rfl (by kernel_rfl) (by kernel_rfl) (by kernel_rfl) (some 36) rfl (Or.inl ⟨by rfl, ?_⟩) (fun _ _ _ h => h) (by assumption) ?_
  rotate_left
  · intro w hSw; (try dsimp only at hSw); have hc := cell_later hSw x2; go_simp; (try with_reducible rfl)
  simp only [Act.put, List.setIfInBounds_toArray, List.set_cons_zero, List.set_cons_succ]
  refine wpAnyH_ready (rs := [2]) (by kernel_rfl) (by simp) ?_
  refine AllReadyH.cons rfl (fun K hK => ?_) (AllReadyH.nil)
  go_simp
  go_at_call 23
  refine (q1.out _).mono ?_
  rintro e D1 ⟨r2, rfl, h2, bj⟩
  have h2 := hide_ h2
  refine hK.out _ _ (kb0.trans (bj.mono kb0.size)) (fun hHeld => ?_)
  clear hK K
  try simp only [Act.put, List.setIfInBounds_toArray, List.set_cons_zero, List.set_cons_succ]
  have kb1 := kb0.trans (bj.mono kb0.size)
  clear bj
  refine wpAnyH_ready (rs := [5]) (by kernel_rfl) (by simp) ?_
  refine AllReadyH.cons rfl (fun K hK => ?_) (AllReadyH.nil)
  go_simp
  go_at_call 23
  refine (q2.out _ _ h2.out).mono ?_
  rintro e D2 ⟨g3, c3, rfl, o3, bj⟩
  have o3 := hide_ (ownsRow_base o3 (Nat.le_trans k1.out.size (kb1).size))
  refine hK.out _ _ (kb1.trans (bj.mono kb1.size)) (fun hHeld => ?_)
  clear hK K
  try simp only [Act.put, List.setIfInBounds_toArray, List.set_cons_zero, List.set_cons_succ]
  have kb2 := kb1.trans (bj.mono kb1.size)
  clear bj
  refine takeR (i := 6) (v := ?_) rfl (by kernel_rfl) (by kernel_rfl) (by kernel_rfl) (some 6) rfl (Or.inl ⟨by rfl, ?_⟩) (fun _ _ _ h => h) (by assumption) ?_
  rotate_left
  · intro w hSw; (try dsimp only at hSw); go_simp; (try with_reducible rfl)
  simp only [Act.put, List.setIfInBounds_toArray, List.set_cons_zero, List.set_cons_succ]
  refine wpAnyH_done (by kernel_rfl) ?_ _
  have k3 := hide_ (k1.out.trans ((kb2).mono k1.out.size))
  go_wp2_with (first | (at_builtin; refine wpList_append_ownB rfl (.tmp 40) (.tmp 45) 24 rfl w.heap.size 5 i0 Try.underlying24 HN.out.1 HN.out.2.1 HN.out.2.2.1 HN.out.2.2.2 (.slice (some ⟨g3, 0, none⟩) 4 c3) 4 (u8s (codesF t c)) (by simp [Act.eval, Act.put]) o3.out (.slice ao 64 cap) (m.take 64) (by simp [Act.eval, Act.put]) (HT.out.later k3.out) (by have := HM.out; omega) k3.out.size ?_; intro v5 w5 own5 hg5; have k5 := hide_ (k3.out.trans (below_grown hg5 _ k3.out.size (fun k e => (own_block_lt o3.out e).1))); have h5 : Hid (Bytes w5 v5 (bodyF t c m)) := hide_ (Bytes.ofOwn (by rw [← u8s_append, HL.out] at own5; exact own5) HI.out); clear own5 hg5) | (go_at_call 24; refine (q3.out _ _ h5.out).mono ?_; rintro e w6 ⟨a6, c6, rfl, o6, b6⟩; have k6 := hide_ (k5.out.trans (b6.mono k5.out.size)); have o6 := hide_ (ownsRow_base o6 k5.out.size); clear b6))
  go_ret
  exact ⟨a6, c6, by first | rfl | simp, o6.out, k6.out⟩

theorem rfreply_yes (o : Bool) (t c : Int) (v : Value) (m : List Int) (w : World) (hB : Bytes w v m) (h : replyR o t c = true) :
    Calls Try.prog 9 #[.agg #[.bool o, .int .i64 t, .int .i64 c], v] w fun e w' => ∃ a cc, e = .returned (.slice a (replyF t c m).length cc) ∧ w'.ownsRow w.heap.size 5 1 (.slice a (replyF t c m).length cc) (replyF t c m).length (u8s (replyF t c m)) ∧ Below w.heap.size w w' := by
  by_cases h1 : m.length < 8
  · exact rfreply_y0 o t c v m w hB h h1
  · by_cases h2 : m.length < 64
    · exact rfreply_y1 o t c v m w hB h ⟨by omega, h2⟩
    · exact rfreply_y2 o t c v m w hB h (by omega)
end Go.Proofs.Ytfeioclnhnipmaa
