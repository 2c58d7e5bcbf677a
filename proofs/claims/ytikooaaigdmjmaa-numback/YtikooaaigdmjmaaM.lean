import Derived.Test.YtikooaaigdmjmaaL
namespace Go.Proofs.Ytikooaaigdmjmaa
open Go Go.RowKit
set_option linter.unusedVariables false
set_option linter.unusedSimpArgs false

theorem spl_isB (n s : Int) (hr : rightB n s = true) : isB (spl n s) := by
  simp only [rightB, Bool.and_eq_true, decide_eq_true_eq] at hr
  obtain ⟨hs, h0, h1⟩ := hr
  rcases szB_true hs with rfl | rfl | rfl
  · intro z hz; simp [spl] at hz; omega
  · intro z hz; simp [spl] at hz; omega
  · have h1 : n < 4294967296 := by simpa [lim] using h1
    intro z hz; simp [spl] at hz; omega

theorem Bytes.isB_ {w : World} {v : Value} {l : List Int} (h : Bytes w v l) : isB l := by
  obtain ⟨a, cap, _, _, _, h, _⟩ := h; exact h
theorem Bytes.short {w : World} {v : Value} {l : List Int} (h : Bytes w v l) : ∃ a cap, v = .slice a l.length cap := by
  obtain ⟨a, cap, h, _⟩ := h; exact ⟨a, cap, h⟩

/-- what is put, whether there is something or not -/
def putL (l : List Int) (n s : Int) : List Int := if rightB n s then l ++ spl n s else l
theorem put_all (v : Value) (l : List Int) (n s : Int) (w : World) (hB : Bytes w v l) (hl : l.length ≤ 100000000000000) :
    Calls Try.prog 13 #[v, .int .i64 n, .int .i64 s] w fun e w' => ∃ r, e = .returned r ∧ Bytes w' r (putL l n s) ∧ Below w.heap.size w w' := by
  cases hr : rightB n s
  · refine (put_no v l n s w hB hl hr).mono fun e w' ⟨r, he, ho, hb⟩ => ⟨r, he, ?_, hb⟩
    simp only [putL, hr]
    exact Bytes.ofOwn ho hB.isB_
  · refine (put_any v l n s w hB hl hr).mono fun e w' ⟨r, he, ho, hb⟩ => ⟨r, he, ?_, hb⟩
    simp only [putL, hr]
    exact Bytes.ofOwn ho (hB.isB_.app (spl_isB n s hr))
theorem rput_all (v : Value) (l : List Int) (n s : Int) (w : World) (hB : Bytes w v l) (hl : l.length ≤ 100000000000000) :
    Calls Try.prog 15 #[v, .int .i64 n, .int .i64 s] w fun e w' => ∃ r, e = .returned r ∧ Bytes w' r (putL l n s) ∧ Below w.heap.size w w' := by
  cases hr : rightB n s
  · refine (rput_no v l n s w hB hl hr).mono fun e w' ⟨r, he, ho, hb⟩ => ⟨r, he, ?_, hb⟩
    simp only [putL, hr]
    exact Bytes.ofOwn ho hB.isB_
  · refine (rput_any v l n s w hB hl hr).mono fun e w' ⟨r, he, ho, hb⟩ => ⟨r, he, ?_, hb⟩
    simp only [putL, hr]
    exact Bytes.ofOwn ho (hB.isB_.app (spl_isB n s hr))

/-- a cut of a slice of bytes from its head -/
theorem Bytes.cut {w : World} {g n cap : Nat} {l m : List Int} (h : Bytes w (.slice (some ⟨g, 0, none⟩) n cap) (l ++ m)) : Bytes w (.slice (some ⟨g, 0, none⟩) l.length cap) l := by
  obtain ⟨a, c, e, h1, h2, h3, h4, h5⟩ := h
  cases e
  refine ⟨_, _, rfl, by simp at h1; omega, h2, fun z hz => h3 z (List.mem_append_left _ hz), (fun e => by cases e), fun ad e j z hz => ?_⟩
  cases e
  exact h5 _ rfl j z (by rw [List.getElem?_append_left (List.getElem?_eq_some_iff.1 hz).1]; exact hz)

theorem own_form {w : World} {base n : Nat} {e : TypeId} {v : Value} {xs : List Value} (h : w.ownsRow base e 1 v n xs) (hn : 0 < n) : ∃ g cap, v = .slice (some ⟨g, 0, none⟩) n cap ∧ n ≤ cap ∧ cap ≤ 2 ^ 63 - 1 := by
  rcases h.2 with ⟨_, h0⟩ | ⟨g, cap, cur, rfl, hb, hg, h1, h2, _⟩
  · omega
  · exact ⟨g, cap, rfl, h1, by unfold maxLen at h2; exact h2⟩
theorem tail_isB : isB [9, 8, 7, 6] := by intro z hz; simp at hz; omega

set_option maxHeartbeats 1000000 in
theorem numPuts_walk (v : Value) (l : List Int) (n size : Int) (w : World) (hB : Bytes w v l) :
    Calls Try.prog 4 #[v, .int .i64 n, .int .i64 size] w fun e w' => e = .returned (.bool true) ∧ Below w.heap.size w w' := by
  obtain ⟨a, cap, rfl⟩ := hB.short
  have HB := hide_ hB
  obtain ⟨_, hc1, hc2, _⟩ := hB.bounds
  clear hB
  by_cases hl : 4000 < l.length
  · have hl' : (4000 : Int) < (l.length : Int) := by omega
    go_enter Try.func4, Try.ntmps4
    go_wp2_with (go_at_call 11; refine (awake_any _).mono ?_; rintro e w1 ⟨rfl, b1⟩)
    go_ret
    exact ⟨rfl, b1⟩
  · have hl' : ¬ (4000 : Int) < (l.length : Int) := by omega
    obtain ⟨i0, hi0, hz0, hz1, hz2⟩ := info_parts info5
    have HI : Hid (Try.prog.info? 5 = some i0 ∧ i0.zero = some (.int .u8 0) ∧ i0.size = 1 ∧ i0.bytes = 1) := ⟨hi0, hz0, hz1, hz2⟩
    clear hi0 hz0 hz1 hz2
    go_enter Try.func4, Try.ntmps4
    go_wp2_with fail
    refine (clone_any _ l w HB.out (by omega)).mono ?_
    rintro e w1 ⟨r, rfl, ho, b1⟩
    have s1 := b1.size
    have HO := hide_ ho
    clear ho
    go_wp2_with (at_builtin; refine wpList_append_lit (.tmp 14) (.tmp 15) 22 rfl 5 i0 Try.underlying22 HI.out.1 HI.out.2.1 HI.out.2.2.1 HI.out.2.2.2 w.heap.size r l.length (u8s l) (by simp [Act.eval, Act.put]) w1 HO.out [9, 8, 7, 6] _ rfl 4 rfl (by simp [Act.eval, Act.put]) (by simp [Region.wanted]) (by simp; omega) (by omega) ?_; intro x w2 ho2 hb2; obtain ⟨g, xc, rfl, hx1, hx2⟩ := own_form ho2 (by simp); simp only [List.length_cons, List.length_nil, Nat.reduceAdd] at hx1)
    have hX := Bytes.ofOwn (l := l ++ [9, 8, 7, 6]) (by rw [u8s_append]; simpa using ho2) (HB.out.isB_.app tail_isB)
    have b2 := b1.trans hb2
    have s2 := b2.size
    have HX := hide_ hX
    have HC := hide_ (hX.cut)
    clear hX ho2 hb2 HO
    go_wp2_with fail
    refine (put_all _ l n size w2 HC.out (by omega)).mono ?_
    rintro e w3 ⟨y, rfl, hy, b3⟩
    have HY := hide_ hy
    clear hy HC
    have s3 := b3.size
    have b3' := b2.trans (b3.mono s2)
    go_wp2_with fail
    refine (rput_all _ l n size w3 (HB.out.later b3') (by omega)).mono ?_
    rintro e w4 ⟨z, rfl, hz, b4⟩
    have HZ := hide_ hz
    clear hz
    have s4 := b4.size
    have b4' := b3'.trans (b4.mono b3'.size)
    go_wp2_with fail
    refine (equal_any y z _ _ w4 (HY.out.later b4) HZ.out).mono ?_
    rintro e w5 ⟨rfl, b5⟩
    have s5 := b5.size
    have b5' := b4'.trans (b5.mono b4'.size)
    have hE : (putL l n size == putL l n size) = true := by simp
    clear HY HZ
    go_wp2_with fail
    refine (clone_any _ l w5 (HB.out.later b5') (by omega)).mono ?_
    rintro e w6 ⟨r2, rfl, ho6, b6⟩
    have s6 := b6.size
    have HO6 := hide_ ho6
    clear ho6
    go_wp2_with (at_builtin; refine wpList_append_lit (.tmp 33) (.tmp 34) 22 rfl 5 i0 Try.underlying22 HI.out.1 HI.out.2.1 HI.out.2.2.1 HI.out.2.2.2 w5.heap.size r2 l.length (u8s l) (by simp [Act.eval, Act.put]) w6 HO6.out [9, 8, 7, 6] _ rfl 4 rfl (by simp [Act.eval, Act.put]) (by simp [Region.wanted, yielded]) (by simp; omega) (by omega) ?_; intro x2 w7 ho7 hb7)
    have hX2 := Bytes.ofOwn (l := l ++ [9, 8, 7, 6]) (by rw [u8s_append]; simpa using ho7) (HB.out.isB_.app tail_isB)
    have b7 := b6.trans hb7
    have b27 : Below w2.heap.size w2 w7 := b3.trans ((b4.mono s3).trans ((b5.mono (by omega)).trans (b7.mono (by omega))))
    have b7' := b5'.trans (b7.mono b5'.size)
    refine (equal_any _ x2 _ _ w7 (HX.out.later b27) hX2).mono ?_
    rintro e w8 ⟨rfl, b8⟩
    have hE2 : (l ++ [9, 8, 7, 6] == l ++ [9, 8, 7, 6]) = true := by simp
    have b8' := b7'.trans (b8.mono b7'.size)
    clear hX2 ho7 HX HO6 b1 b2 b3 b4 b5 b6 b7 b27 hb7 b3' b4' b5' b7' b8
    have hE3 : (rightB n size == rightB n size) = true := by simp
    go_wp2_with (first | (go_at_call 16; refine (right_any _ _ _).mono ?_; rintro e w' ⟨rfl, rfl⟩) | (go_at_call 17; refine (rright_any _ _ _).mono ?_; rintro e w' ⟨rfl, rfl⟩) | (go_at_call 11; refine (awake_any _).mono ?_; rintro e w9 ⟨rfl, b9⟩))
    go_ret
    exact ⟨rfl, b8'.trans (b9.mono b8'.size)⟩

end Go.Proofs.Ytikooaaigdmjmaa
