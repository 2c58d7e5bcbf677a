import Derived.Test.YtfeioclnhnipmaaPc
import Derived.Deep.RegionHeld3
import Derived.Deep.RegionWith
import Derived.Deep.MidRow
import Derived.Deep.Cut
namespace Go.Proofs.Ytfeioclnhnipmaa
open Go Go.RowKit
set_option linter.unusedVariables false
set_option linter.unusedSimpArgs false
attribute [local go_sem] Oper.semAt_some

def replyR (o : Bool) (t c : Int) : Bool := o && rightB t 2 && rightB c 2
def codesF (t c : Int) : List Int := spl t 2 ++ spl c 2
def bodyF (t c : Int) (m : List Int) : List Int := codesF t c ++ m.take 64
def replyF (t c : Int) (m : List Int) : List Int := headF 1 (be4 m 4) (bodyF t c m)
theorem codesF_len (t c : Int) : (codesF t c).length = 4 := by simp [codesF, spl_len]
theorem codesF_isB {t c : Int} (h : rightB t 2 = true) (k : rightB c 2 = true) : isB (codesF t c) := (spl_isB t 2 h).app (spl_isB c 2 k)
theorem isB_take {m : List Int} (h : isB m) (n : Nat) : isB (m.take n) := fun z hz => h z (List.mem_of_mem_take hz)
theorem bodyF_isB {t c : Int} {m : List Int} (h : rightB t 2 = true) (k : rightB c 2 = true) (hm : isB m) : isB (bodyF t c m) := (codesF_isB h k).app (isB_take hm 64)
theorem bodyF_len (t c : Int) (m : List Int) : (bodyF t c m).length = 4 + min 64 m.length := by unfold bodyF; rw [List.length_append, codesF_len, List.length_take]
theorem bodyF_headR {t c : Int} {m : List Int} (hm : isB m) : headR 1 (be4 m 4) (bodyF t c m) = true := by
  have h := be4_range hm 4
  unfold headR
  have h1 : rightB 1 1 = true := by decide
  have h2 : rightB (be4 m 4) 4 = true := rightB_in4 h.1 (by omega)
  rw [h1, h2, bodyF_len]
  simp; omega
theorem replyF_len (t c : Int) (m : List Int) : (replyF t c m).length = 12 + min 64 m.length := by unfold replyF; rw [headF_len, bodyF_len]; omega
theorem headF_isB {kind xid : Int} {body : List Int} (hb : isB body) (h : headR kind xid body = true) : isB (headF kind xid body) := by
  unfold headR at h
  simp only [Bool.and_eq_true, decide_eq_true_eq] at h
  obtain ⟨⟨ha, hc⟩, hd⟩ := h
  have r2 : rightB (8 + (body.length : Int)) 2 = true := by simp [rightB, szB, lim]; omega
  exact ((((spl_isB 4 1 (by decide)).app (spl_isB kind 1 ha)).app (spl_isB _ 2 r2)).app (spl_isB _ 4 hc)).app hb
theorem replyF_isB {t c : Int} {m : List Int} (h : rightB t 2 = true) (k : rightB c 2 = true) (hm : isB m) : isB (replyF t c m) := headF_isB (bodyF_isB h k hm) (bodyF_headR hm)
theorem take64 (m : List Int) : m.take (min m.length 64) = m.take 64 := by
  by_cases h : m.length ≤ 64
  · rw [Nat.min_eq_left h, List.take_of_length_le (Nat.le_refl _), List.take_of_length_le h]
  · rw [Nat.min_eq_right (by omega)]
theorem min_int (n : Nat) : min (n : Int) 64 = ((min n 64 : Nat) : Int) := by omega
theorem min_int' (n : Nat) : min 64 (n : Int) = ((min n 64 : Nat) : Int) := by omega
set_option maxRecDepth 100000 in
set_option maxHeartbeats 8000000 in
theorem freply_no (o : Bool) (t c : Int) (v : Value) (m : List Int) (w : World) (hB : Bytes w v m) (h : replyR o t c = false) :
    Calls Try.prog 8 #[.agg #[.bool o, .int .i64 t, .int .i64 c], v] w fun e w' => e = .returned (.slice none 0 0) ∧ Below w.heap.size w w' := by
  obtain ⟨ao, cap, rfl⟩ := hB.short
  have B0 := hide_ (below1 w (.cells #[.bool o, .int .i64 t, .int .i64 c] 23))
  have gr1 := fun w => right_any t 2 w
  have gr2 := fun w => right_any c 2 w
  unfold replyR at h
  clear hB
  cases o
  · clear h gr1 gr2
    go_enter Try.func8, Try.ntmps8
    go_wp2
    go_ret
    exact ⟨rfl, B0.out⟩
  · cases ha : rightB t 2
    · rw [ha] at gr1
      clear h
      go_enter Try.func8, Try.ntmps8
      go_wp2_with (first | (go_at_call_of 17 (Value.int .i64 t); refine (gr1 _).mono ?_; rintro e w9 ⟨rfl, rfl⟩))
      go_ret
      exact ⟨by first | rfl | simp, B0.out⟩
    · have hb : rightB c 2 = false := by simpa [ha] using h
      rw [ha] at gr1
      rw [hb] at gr2
      clear h
      go_enter Try.func8, Try.ntmps8
      go_wp2_with (first | (go_at_call_of 17 (Value.int .i64 c); refine (gr2 _).mono ?_; rintro e w9 ⟨rfl, rfl⟩) | (go_at_call_of 17 (Value.int .i64 t); refine (gr1 _).mono ?_; rintro e w9 ⟨rfl, rfl⟩))
      go_ret
      exact ⟨by first | rfl | simp, B0.out⟩

set_option maxRecDepth 100000 in
set_option maxHeartbeats 8000000 in
theorem rfreply_no (o : Bool) (t c : Int) (v : Value) (m : List Int) (w : World) (hB : Bytes w v m) (h : replyR o t c = false) :
    Calls Try.prog 9 #[.agg #[.bool o, .int .i64 t, .int .i64 c], v] w fun e w' => e = .returned (.slice none 0 0) ∧ Below w.heap.size w w' := by
  obtain ⟨ao, cap, rfl⟩ := hB.short
  have B0 := hide_ (below1 w (.cells #[.bool o, .int .i64 t, .int .i64 c] 23))
  have gr1 := fun w => rright_any t 2 w
  have gr2 := fun w => rright_any c 2 w
  unfold replyR at h
  clear hB
  cases o
  · clear h gr1 gr2
    go_enter Try.func9, Try.ntmps9
    go_wp2
    go_ret
    exact ⟨rfl, B0.out⟩
  · cases ha : rightB t 2
    · rw [ha] at gr1
      clear h
      go_enter Try.func9, Try.ntmps9
      go_wp2_with (first | (go_at_call_of 21 (Value.int .i64 t); refine (gr1 _).mono ?_; rintro e w9 ⟨rfl, rfl⟩))
      go_ret
      exact ⟨by first | rfl | simp, B0.out⟩
    · have hb : rightB c 2 = false := by simpa [ha] using h
      rw [ha] at gr1
      rw [hb] at gr2
      clear h
      go_enter Try.func9, Try.ntmps9
      go_wp2_with (first | (go_at_call_of 21 (Value.int .i64 c); refine (gr2 _).mono ?_; rintro e w9 ⟨rfl, rfl⟩) | (go_at_call_of 21 (Value.int .i64 t); refine (gr1 _).mono ?_; rintro e w9 ⟨rfl, rfl⟩))
      go_ret
      exact ⟨by first | rfl | simp, B0.out⟩

set_option maxRecDepth 100000 in
set_option maxHeartbeats 8000000 in
theorem freply_y1 (o : Bool) (t c : Int) (v : Value) (m : List Int) (w : World) (hB : Bytes w v m) (h : replyR o t c = true) (hle : m.length ≤ 64) :
    Calls Try.prog 8 #[.agg #[.bool o, .int .i64 t, .int .i64 c], v] w fun e w' => ∃ a cc, e = .returned (.slice a (replyF t c m).length cc) ∧ w'.ownsRow w.heap.size 5 1 (.slice a (replyF t c m).length cc) (replyF t c m).length (u8s (replyF t c m)) ∧ Below w.heap.size w w' := by
  obtain rfl : o = true := by unfold replyR at h; cases o <;> simp_all
  obtain ⟨ao, cap, rfl⟩ := hB.short
  have hm := hB.isB_
  obtain ⟨-, sl, hT⟩ := bytes_take hB m.length (by omega)
  have e64 : m.take m.length = m.take 64 := by rw [List.take_of_length_le (Nat.le_refl _), List.take_of_length_le hle]
  rw [e64] at hT
  have B0 := hide_ (below1 w (.cells #[.bool true, .int .i64 t, .int .i64 c] 23))
  have A0 := hide_ (AB.at0 w 23 [.bool true, .int .i64 t, .int .i64 c])
  obtain ⟨y0, y1, y2, -⟩ := A0.out.three
  unfold replyR at h
  simp only [Bool.and_eq_true] at h
  obtain ⟨⟨-, ha⟩, hb⟩ := h
  have gr1 := fun w => right_any t 2 w
  have gr2 := fun w => right_any c 2 w
  rw [ha] at gr1
  rw [hb] at gr2
  have qg : Hid (∀ W, Below w.heap.size w W → Calls Try.prog 18 #[.slice ao m.length cap, .int .i64 4, .int .i64 4] W fun e w' => ∃ er, e = .returned (.tuple #[.int .i64 (be4 m 4), .int .i64 er]) ∧ Below W.heap.size W w') := hide_ (fun W hW => nget4 (.slice ao m.length cap) m 4 W (hB.later hW) (by omega))
  have q1 : Hid (∀ W, Calls Try.prog 19 #[.slice none 0 0, .int .i64 t, .int .i64 2] W fun e w' => ∃ r, e = .returned r ∧ Bytes w' r (spl t 2) ∧ Below W.heap.size W w') := hide_ (fun W => (put_any (.slice none 0 0) [] t 2 W (Bytes.nil W) (by simp) ha).mono (by
    rintro e w' ⟨r, rfl, ho, hb⟩
    exact ⟨r, rfl, Bytes.ofOwn ho (spl_isB t 2 ha), hb⟩))
  have q2 : Hid (∀ (v : Value) W, Bytes W v (spl t 2) → Calls Try.prog 19 #[v, .int .i64 c, .int .i64 2] W fun e w' => ∃ g cc, e = .returned (.slice (some ⟨g, 0, none⟩) 4 cc) ∧ w'.ownsRow W.heap.size 5 1 (.slice (some ⟨g, 0, none⟩) 4 cc) 4 (u8s (codesF t c)) ∧ Below W.heap.size W w') := hide_ (fun v W h => (put_any v (spl t 2) c 2 W h (by simp [spl_len]) hb).mono (by
    rintro e w' ⟨r, rfl, ho, hb⟩
    have := ho
    rw [show (spl t 2 ++ spl c 2) = codesF t c from rfl, codesF_len] at this
    obtain ⟨g, cc, rfl, -, -⟩ := own_form this (by decide)
    exact ⟨g, cc, rfl, this, hb⟩))
  have hlen : 8 + (bodyF t c m).length = (replyF t c m).length := by rw [replyF_len, bodyF_len]; omega
  have q3 : Hid (∀ (v : Value) W, Bytes W v (bodyF t c m) → Calls Try.prog 20 #[.int .i64 1, .int .i64 (be4 m 4), v] W fun e w' => ∃ a cc, e = .returned (.tuple #[.slice a (replyF t c m).length cc, .int .i64 0]) ∧ w'.ownsRow W.heap.size 5 1 (.slice a (replyF t c m).length cc) (replyF t c m).length (u8s (replyF t c m)) ∧ Below W.heap.size W w') := hide_ (fun v W h => (head_yes 1 (be4 m 4) v (bodyF t c m) W h (bodyF_headR hm)).mono (by
    rintro e w' ⟨r, rfl, ho, hb'⟩
    rw [show headF 1 (be4 m 4) (bodyF t c m) = replyF t c m from rfl, hlen] at ho
    obtain ⟨a, cc, e⟩ := (Bytes.ofOwn (l := replyF t c m) ho (replyF_isB ha hb hm)).short
    subst e
    exact ⟨a, cc, rfl, ho, hb'⟩))
  obtain ⟨i0, hi0, hz0, hz1, hz2⟩ := info_parts info5
  have HN : Hid (Try.prog.info? 5 = some i0 ∧ i0.zero = some (.int .u8 0) ∧ i0.size = 1 ∧ i0.bytes = 1) := ⟨hi0, hz0, hz1, hz2⟩
  have HT := hide_ hT
  have HI := hide_ (bodyF_isB ha hb hm)
  have HM := hide_ (show (m.take 64).length ≤ 64 by rw [List.length_take]; omega)
  have HS := hide_ (show m.length = (m.take 64).length by rw [List.length_take]; omega)
  have HL := hide_ (show 4 + (m.take 64).length = (bodyF t c m).length by rw [bodyF_len, List.length_take])
  have hmx := hB.big
  have sl : ∀ wx, (Instr.slice 24 (.slice ao m.length cap) none (some (.int .i64 (m.length : Int))) none).run Try.prog wx = .ok (.slice ao m.length cap) wx := sl
  have hle : (m.length : Int) ≤ 64 := by omega
  generalize (replyF t c m).length = N at q3 ⊢
  clear hB hT ha hb hm hi0 hz0 hz1 hz2 hlen e64

  go_enter Try.func8, Try.ntmps8
  go_upto_region 6 with (first | (first | (go_at_call_of 17 (Value.int .i64 c); refine (gr2 _).mono ?_; rintro e w9 ⟨rfl, rfl⟩) | (go_at_call_of 17 (Value.int .i64 t); refine (gr1 _).mono ?_; rintro e w9 ⟨rfl, rfl⟩)) | (go_at_call 18; refine (qg.out _ B0.out).mono ?_; rintro e w1 ⟨er, rfl, b1⟩; have k1 := hide_ (B0.out.trans (b1.mono B0.out.size)); have A1 := hide_ (A0.out.later b1); obtain ⟨x0, x1, x2, -⟩ := A1.out.three; clear b1) | (go_at_call 19; first | (refine (q2.out _ _ h2.out).mono ?_; rintro e w3 ⟨g3, c3, rfl, o3, b3⟩; have k3 := hide_ (k2.out.trans (b3.mono k2.out.size)); have o3 := hide_ (ownsRow_base o3 k2.out.size); clear b3) | (refine (q1.out _).mono ?_; rintro e w2 ⟨r2, rfl, h2, b2⟩; have k2 := hide_ (k1.out.trans (b2.mono k1.out.size)); have h2 := hide_ h2; have A2 := hide_ (A1.out.later b2); obtain ⟨x0, x1, x2, -⟩ := A2.out.three; clear b2)))
  go_wp2_with (first | (at_builtin; refine wpList_append_ownB rfl (.tmp 37) (.tmp 42) 24 rfl w.heap.size 5 i0 Try.underlying24 HN.out.1 HN.out.2.1 HN.out.2.2.1 HN.out.2.2.2 (.slice (some ⟨g3, 0, none⟩) 4 c3) 4 (u8s (codesF t c)) (by simp [Act.eval, Act.put]) o3.out (.slice ao m.length cap) (m.take 64) (by simp [Act.eval, Act.put]) (HT.out.later k3.out) (by have := HM.out; omega) k3.out.size ?_; intro v5 w5 own5 hg5; have k5 := hide_ (k3.out.trans (below_grown hg5 _ k3.out.size (fun k e => (own_block_lt o3.out e).1))); have h5 : Hid (Bytes w5 v5 (bodyF t c m)) := hide_ (Bytes.ofOwn (by rw [← u8s_append, HL.out] at own5; exact own5) HI.out); clear own5 hg5) | (go_at_call 20; refine (q3.out _ _ h5.out).mono ?_; rintro e w6 ⟨a6, c6, rfl, o6, b6⟩; have k6 := hide_ (k5.out.trans (b6.mono k5.out.size)); have o6 := hide_ (ownsRow_base o6 k5.out.size); clear b6))
  go_ret
  exact ⟨a6, c6, by first | rfl | simp, o6.out, k6.out⟩

set_option maxRecDepth 100000 in
set_option maxHeartbeats 8000000 in
theorem freply_y2 (o : Bool) (t c : Int) (v : Value) (m : List Int) (w : World) (hB : Bytes w v m) (h : replyR o t c = true) (hle : 64 < m.length) :
    Calls Try.prog 8 #[.agg #[.bool o, .int .i64 t, .int .i64 c], v] w fun e w' => ∃ a cc, e = .returned (.slice a (replyF t c m).length cc) ∧ w'.ownsRow w.heap.size 5 1 (.slice a (replyF t c m).length cc) (replyF t c m).length (u8s (replyF t c m)) ∧ Below w.heap.size w w' := by
  obtain rfl : o = true := by unfold replyR at h; cases o <;> simp_all
  obtain ⟨ao, cap, rfl⟩ := hB.short
  have hm := hB.isB_
  obtain ⟨-, sl, hT⟩ := bytes_take hB 64 (by omega)
  have e64 : m.take 64 = m.take 64 := by rfl
  rw [e64] at hT
  have B0 := hide_ (below1 w (.cells #[.bool true, .int .i64 t, .int .i64 c] 23))
  have A0 := hide_ (AB.at0 w 23 [.bool true, .int .i64 t, .int .i64 c])
  obtain ⟨y0, y1, y2, -⟩ := A0.out.three
  unfold replyR at h
  simp only [Bool.and_eq_true] at h
  obtain ⟨⟨-, ha⟩, hb⟩ := h
  have gr1 := fun w => right_any t 2 w
  have gr2 := fun w => right_any c 2 w
  rw [ha] at gr1
  rw [hb] at gr2
  have qg : Hid (∀ W, Below w.heap.size w W → Calls Try.prog 18 #[.slice ao m.length cap, .int .i64 4, .int .i64 4] W fun e w' => ∃ er, e = .returned (.tuple #[.int .i64 (be4 m 4), .int .i64 er]) ∧ Below W.heap.size W w') := hide_ (fun W hW => nget4 (.slice ao m.length cap) m 4 W (hB.later hW) (by omega))
  have q1 : Hid (∀ W, Calls Try.prog 19 #[.slice none 0 0, .int .i64 t, .int .i64 2] W fun e w' => ∃ r, e = .returned r ∧ Bytes w' r (spl t 2) ∧ Below W.heap.size W w') := hide_ (fun W => (put_any (.slice none 0 0) [] t 2 W (Bytes.nil W) (by simp) ha).mono (by
    rintro e w' ⟨r, rfl, ho, hb⟩
    exact ⟨r, rfl, Bytes.ofOwn ho (spl_isB t 2 ha), hb⟩))
  have q2 : Hid (∀ (v : Value) W, Bytes W v (spl t 2) → Calls Try.prog 19 #[v, .int .i64 c, .int .i64 2] W fun e w' => ∃ g cc, e = .returned (.slice (some ⟨g, 0, none⟩) 4 cc) ∧ w'.ownsRow W.heap.size 5 1 (.slice (some ⟨g, 0, none⟩) 4 cc) 4 (u8s (codesF t c)) ∧ Below W.heap.size W w') := hide_ (fun v W h => (put_any v (spl t 2) c 2 W h (by simp [spl_len]) hb).mono (by
    rintro e w' ⟨r, rfl, ho, hb⟩
    have := ho
    rw [show (spl t 2 ++ spl c 2) = codesF t c from rfl, codesF_len] at this
    obtain ⟨g, cc, rfl, -, -⟩ := own_form this (by decide)
    exact ⟨g, cc, rfl, this, hb⟩))
  have hlen : 8 + (bodyF t c m).length = (replyF t c m).length := by rw [replyF_len, bodyF_len]; omega
  have q3 : Hid (∀ (v : Value) W, Bytes W v (bodyF t c m) → Calls Try.prog 20 #[.int .i64 1, .int .i64 (be4 m 4), v] W fun e w' => ∃ a cc, e = .returned (.tuple #[.slice a (replyF t c m).length cc, .int .i64 0]) ∧ w'.ownsRow W.heap.size 5 1 (.slice a (replyF t c m).length cc) (replyF t c m).length (u8s (replyF t c m)) ∧ Below W.heap.size W w') := hide_ (fun v W h => (head_yes 1 (be4 m 4) v (bodyF t c m) W h (bodyF_headR hm)).mono (by
    rintro e w' ⟨r, rfl, ho, hb'⟩
    rw [show headF 1 (be4 m 4) (bodyF t c m) = replyF t c m from rfl, hlen] at ho
    obtain ⟨a, cc, e⟩ := (Bytes.ofOwn (l := replyF t c m) ho (replyF_isB ha hb hm)).short
    subst e
    exact ⟨a, cc, rfl, ho, hb'⟩))
  obtain ⟨i0, hi0, hz0, hz1, hz2⟩ := info_parts info5
  have HN : Hid (Try.prog.info? 5 = some i0 ∧ i0.zero = some (.int .u8 0) ∧ i0.size = 1 ∧ i0.bytes = 1) := ⟨hi0, hz0, hz1, hz2⟩
  have HT := hide_ hT
  have HI := hide_ (bodyF_isB ha hb hm)
  have HM := hide_ (show (m.take 64).length ≤ 64 by rw [List.length_take]; omega)
  have HS := hide_ (show 64 = (m.take 64).length by rw [List.length_take]; omega)
  have HL := hide_ (show 4 + (m.take 64).length = (bodyF t c m).length by rw [bodyF_len, List.length_take])
  have hmx := hB.big
  have sl : ∀ wx, (Instr.slice 24 (.slice ao m.length cap) none (some (.int .i64 64)) none).run Try.prog wx = .ok (.slice ao 64 cap) wx := sl
  have hle : ¬ (m.length : Int) ≤ 64 := by omega
  generalize (replyF t c m).length = N at q3 ⊢
  clear hB hT ha hb hm hi0 hz0 hz1 hz2 hlen e64

  go_enter Try.func8, Try.ntmps8
  go_upto_region 6 with (first | (first | (go_at_call_of 17 (Value.int .i64 c); refine (gr2 _).mono ?_; rintro e w9 ⟨rfl, rfl⟩) | (go_at_call_of 17 (Value.int .i64 t); refine (gr1 _).mono ?_; rintro e w9 ⟨rfl, rfl⟩)) | (go_at_call 18; refine (qg.out _ B0.out).mono ?_; rintro e w1 ⟨er, rfl, b1⟩; have k1 := hide_ (B0.out.trans (b1.mono B0.out.size)); have A1 := hide_ (A0.out.later b1); obtain ⟨x0, x1, x2, -⟩ := A1.out.three; clear b1) | (go_at_call 19; first | (refine (q2.out _ _ h2.out).mono ?_; rintro e w3 ⟨g3, c3, rfl, o3, b3⟩; have k3 := hide_ (k2.out.trans (b3.mono k2.out.size)); have o3 := hide_ (ownsRow_base o3 k2.out.size); clear b3) | (refine (q1.out _).mono ?_; rintro e w2 ⟨r2, rfl, h2, b2⟩; have k2 := hide_ (k1.out.trans (b2.mono k1.out.size)); have h2 := hide_ h2; have A2 := hide_ (A1.out.later b2); obtain ⟨x0, x1, x2, -⟩ := A2.out.three; clear b2)))
  go_wp2_with (first | (at_builtin; refine wpList_append_ownB rfl (.tmp 37) (.tmp 42) 24 rfl w.heap.size 5 i0 Try.underlying24 HN.out.1 HN.out.2.1 HN.out.2.2.1 HN.out.2.2.2 (.slice (some ⟨g3, 0, none⟩) 4 c3) 4 (u8s (codesF t c)) (by simp [Act.eval, Act.put]) o3.out (.slice ao 64 cap) (m.take 64) (by simp [Act.eval, Act.put]) (HT.out.later k3.out) (by have := HM.out; omega) k3.out.size ?_; intro v5 w5 own5 hg5; have k5 := hide_ (k3.out.trans (below_grown hg5 _ k3.out.size (fun k e => (own_block_lt o3.out e).1))); have h5 : Hid (Bytes w5 v5 (bodyF t c m)) := hide_ (Bytes.ofOwn (by rw [← u8s_append, HL.out] at own5; exact own5) HI.out); clear own5 hg5) | (go_at_call 20; refine (q3.out _ _ h5.out).mono ?_; rintro e w6 ⟨a6, c6, rfl, o6, b6⟩; have k6 := hide_ (k5.out.trans (b6.mono k5.out.size)); have o6 := hide_ (ownsRow_base o6 k5.out.size); clear b6))
  go_ret
  exact ⟨a6, c6, by first | rfl | simp, o6.out, k6.out⟩

theorem freply_yes (o : Bool) (t c : Int) (v : Value) (m : List Int) (w : World) (hB : Bytes w v m) (h : replyR o t c = true) :
    Calls Try.prog 8 #[.agg #[.bool o, .int .i64 t, .int .i64 c], v] w fun e w' => ∃ a cc, e = .returned (.slice a (replyF t c m).length cc) ∧ w'.ownsRow w.heap.size 5 1 (.slice a (replyF t c m).length cc) (replyF t c m).length (u8s (replyF t c m)) ∧ Below w.heap.size w w' := by
  by_cases hle : m.length ≤ 64
  · exact freply_y1 o t c v m w hB h hle
  · exact freply_y2 o t c v m w hB h (by omega)
end Go.Proofs.Ytfeioclnhnipmaa
