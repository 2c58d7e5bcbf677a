import Derived.Test.YtfeioclnhnipmaaProg
import Derived.Test.YtfeioclnhnipmaaK
import Derived.Test.YtfeioclnhnipmaaD
import Derived.Test.YtfeioclnhnipmaaF
import Derived.Test.YtfeioclnhnipmaaG
import Derived.Test.YtfeioclnhnipmaaH
import Derived.Below
import Derived.BigQuiet
import Derived.BigRegion
import Derived.Deep.QuietTactic
import Derived.Deep.RegionHeld3
import Derived.Deep.RegionLaw
import Derived.Deep.RegionLawGrows
import Derived.Handy
import Derived.Laws.AppendOwn
import Derived.Laws.AppendOwnNone
import Derived.Laws.BitsAllLaws
import Derived.Laws.BitsLemmas
import Derived.Laws.CopyOwn
import Derived.Laws.OwnMore
import Derived.Laws.Rows
import Derived.Laws.StructEq
import Derived.OpenShut
import Derived.ProofKit
import Derived.RegionTactic
import Derived.WalkKit
import Derived.WalkLawsBesides
import Derived.WalkSmall
import Derived.WalkSpells
namespace Go.Proofs.Ytfeioclnhnipmaa
open Go Go.RowKit
set_option linter.unusedVariables false
set_option linter.unusedSimpArgs false

theorem wpList_wanted {P : Program} {w : World} {ops : Array Oper} {rest : List Oper} {o : Oper} {a : Act} {Q : Exit → Act → World → Prop}
    (hw : Region.wanted o (yielded ops a.tmps) = true)
    (h : ∀ K : Act → World → Prop, (∀ a w, wpList P ops Q rest a w → K a w) → o.wp P a w K Q) : wpList P ops Q (o :: rest) a w :=
  wpList_step fun K hK => by rw [if_pos hw]; exact h K hK

/-- bytes that were just laid, appended to what the call owns -/
theorem wpList_append_lit {P : Program} {ops : Array Oper} {rest : List Oper} {o : Oper} {a : Act} {Q : Exit → Act → World → Prop} (s x : Operand) (t : TypeId)
    (ho : o.op = .call { callee := .builtin .append, args := #[s, x], argTypes := #[t, t] })
    (e : TypeId) (i : TypeInfo) (ht : P.underlying t = some (.slice e)) (hi : P.info? e = some i) (hz : i.zero = some (.int .u8 0))
    (hsize : i.size = 1) (hby : i.bytes = 1)
    (base : Nat) (v : Value) (n : Nat) (xs : List Value) (hs : a.eval s = v) (w0 : World) (hown : w0.ownsRow base e 1 v n xs)
    (l : List Int) (cells : Array Value) (hc : cells = (u8s l).toArray) (m : Nat) (hm : m = l.length) (hx : a.eval x = .slice (some ⟨w0.heap.size, 0, none⟩) m m) (hw : Region.wanted o (yielded ops a.tmps) = true)
    (h63 : n + l.length ≤ 140737488355328) (hbase : base ≤ w0.heap.size)
    (h : ∀ v' w', w'.ownsRow base e 1 v' (n + l.length) (xs ++ u8s l) → Below base w0 w' → wpList P ops Q rest (a.put o.dst v') w') : wpList P ops Q (o :: rest) a (w0.alloc (.cells cells e)) := by
  subst hc hm
  refine wpList_wanted hw fun K hK => ?_
  refine wp_append_own (w0.alloc (.cells (u8s l).toArray e)) s x t ho base e i (.int .u8 0) 1 1 ht hi hz hsize hby rfl (by decide) v n xs hs (hown.alloc _) ⟨w0.heap.size, 0, none⟩ l.length l.length (u8s l) hx (by simp [u8s]) ?_ (u8s_one l) (by unfold maxLen; omega) (by omega) (by simp; omega) (fun v' w' a1 a2 _ => hK _ _ (h v' w' a1 ?_))
  · intro j u hu
    rw [Addr.add_lit, World.cell?_alloc_new]
    simpa using hu
  · have hlt := hown.lt
    exact (by go_grown : Below base w0 (w0.alloc (.cells (u8s l).toArray e))).trans ((Below.refl base _).grown a2 (by simp; omega) (fun k hk => (hlt k hk).1))

set_option maxHeartbeats 1000000 in
theorem rput_no (v : Value) (l : List Int) (n s : Int) (w : World) (hB : Bytes w v l) (hl : l.length ≤ 100000000000000) (hr : rightB n s = false) :
    Calls Try.prog 23 #[v, .int .i64 n, .int .i64 s] w fun e w' => ∃ r, e = .returned r ∧ w'.ownsRow w.heap.size 5 1 r l.length (u8s l) ∧ Below w.heap.size w w' := by
  have HB := hide_ hB
  clear hB
  obtain ⟨i0, hi0, hz0, hz1, hz2⟩ := info_parts info5
  have HI : Hid (Try.prog.info? 5 = some i0 ∧ i0.zero = some (.int .u8 0) ∧ i0.size = 1 ∧ i0.bytes = 1) := ⟨hi0, hz0, hz1, hz2⟩
  clear hi0 hz0 hz1 hz2
  go_enter Try.func23, Try.ntmps23
  go_wp2_with (first | (at_builtin; refine wpList_append_ownB rfl (.tmp 9) (.tmp 10) 24 rfl w.heap.size 5 i0 Try.underlying24 HI.out.1 HI.out.2.1 HI.out.2.2.1 HI.out.2.2.2 (.slice (some ⟨w.heap.size, 0, none⟩) 0 0) 0 [] (by simp [Act.eval, Act.put]) (World.ownsRow_made w #[] 0 (Nat.le_refl _) (Nat.zero_le _) rfl) v l (by simp [Act.eval, Act.put]) (HB.out.later (by go_grown)) (by omega) (by simp) ?_; intro v' w1 hown hg) | (go_at_call 21; refine (rright_any _ _ _).mono ?_; rintro e w' ⟨rfl, rfl⟩))
  go_ret
  exact ⟨_, rfl, by simpa using hown, (by go_grown : Below w.heap.size w (w.alloc (.cells #[] 5))).trans (below_grown hg _ (by simp) (by simp [Value.ownBlock]))⟩

set_option maxHeartbeats 1000000 in
theorem rput_1 (v : Value) (l : List Int) (n : Int) (w : World) (hB : Bytes w v l) (hl : l.length ≤ 100000000000000) (h0 : 0 ≤ n) (h1 : n < 256) :
    Calls Try.prog 23 #[v, .int .i64 n, .int .i64 1] w fun e w' => ∃ r, e = .returned r ∧ w'.ownsRow w.heap.size 5 1 r (l.length + 1) (u8s l ++ u8s [n]) ∧ Below w.heap.size w w' := by
  have hr := rightB_in1 h0 h1
  have HB := hide_ hB
  clear hB
  obtain ⟨i0, hi0, hz0, hz1, hz2⟩ := info_parts info5
  have HI : Hid (Try.prog.info? 5 = some i0 ∧ i0.zero = some (.int .u8 0) ∧ i0.size = 1 ∧ i0.bytes = 1) := ⟨hi0, hz0, hz1, hz2⟩
  clear hi0 hz0 hz1 hz2
  go_enter Try.func23, Try.ntmps23
  go_wp2_with (first | (at_builtin; refine wpList_append_ownB rfl (.tmp 9) (.tmp 10) 24 rfl w.heap.size 5 i0 Try.underlying24 HI.out.1 HI.out.2.1 HI.out.2.2.1 HI.out.2.2.2 (.slice (some ⟨w.heap.size, 0, none⟩) 0 0) 0 [] (by simp [Act.eval, Act.put]) (World.ownsRow_made w #[] 0 (Nat.le_refl _) (Nat.zero_le _) rfl) v l (by simp [Act.eval, Act.put]) (HB.out.later (by go_grown)) (by omega) (by simp) ?_; intro v' w1 hown hg) | (go_at_call 21; refine (rright_any _ _ _).mono ?_; rintro e w' ⟨rfl, rfl⟩))
  have b1 : Below w.heap.size w w1 := (by go_grown : Below w.heap.size w (w.alloc (.cells #[] 5))).trans (below_grown hg _ (by simp) (by simp [Value.ownBlock]))
  have hs1 := b1.size
  have O1 := hide_ hown
  clear hown hg
  refine wp_loop_rounds 2 ?_
  rw [rounds_succ]
  go_wp2_with (at_builtin; refine wpList_append_lit (.tmp 23) (.tmp 29) 24 rfl 5 i0 Try.underlying24 HI.out.1 HI.out.2.1 HI.out.2.2.1 HI.out.2.2.2 w.heap.size v' (0 + l.length) ([] ++ u8s l) (by simp [Act.eval, Act.put]) w1 O1.out [n] _ rfl 1 rfl (by simp [Act.eval, Act.put]) (by simp [Region.wanted]) (by simp; omega) (by omega) ?_; intro v2 w2 hown2 hb2)
  have O2 := hide_ hown2
  have b2 := b1.trans hb2
  have hs2 := b2.size
  clear hown2 hb2 O1
  rw [rounds_succ]
  go_wp2
  go_ret
  exact ⟨_, rfl, by have := O2.out; simpa [u8s] using this, b2⟩

set_option maxHeartbeats 1000000 in
theorem rput_2 (v : Value) (l : List Int) (n : Int) (w : World) (hB : Bytes w v l) (hl : l.length ≤ 100000000000000) (h0 : 0 ≤ n) (h1 : n < 65536) :
    Calls Try.prog 23 #[v, .int .i64 n, .int .i64 2] w fun e w' => ∃ r, e = .returned r ∧ w'.ownsRow w.heap.size 5 1 r (l.length + 2) (u8s l ++ u8s [n / 256, n % 256]) ∧ Below w.heap.size w w' := by
  have hr := rightB_in2 h0 h1
  have HB := hide_ hB
  clear hB
  obtain ⟨i0, hi0, hz0, hz1, hz2⟩ := info_parts info5
  have HI : Hid (Try.prog.info? 5 = some i0 ∧ i0.zero = some (.int .u8 0) ∧ i0.size = 1 ∧ i0.bytes = 1) := ⟨hi0, hz0, hz1, hz2⟩
  clear hi0 hz0 hz1 hz2
  go_enter Try.func23, Try.ntmps23
  go_wp2_with (first | (at_builtin; refine wpList_append_ownB rfl (.tmp 9) (.tmp 10) 24 rfl w.heap.size 5 i0 Try.underlying24 HI.out.1 HI.out.2.1 HI.out.2.2.1 HI.out.2.2.2 (.slice (some ⟨w.heap.size, 0, none⟩) 0 0) 0 [] (by simp [Act.eval, Act.put]) (World.ownsRow_made w #[] 0 (Nat.le_refl _) (Nat.zero_le _) rfl) v l (by simp [Act.eval, Act.put]) (HB.out.later (by go_grown)) (by omega) (by simp) ?_; intro v' w1 hown hg) | (go_at_call 21; refine (rright_any _ _ _).mono ?_; rintro e w' ⟨rfl, rfl⟩))
  have b1 : Below w.heap.size w w1 := (by go_grown : Below w.heap.size w (w.alloc (.cells #[] 5))).trans (below_grown hg _ (by simp) (by simp [Value.ownBlock]))
  have hs1 := b1.size
  have O1 := hide_ hown
  clear hown hg
  refine wp_loop_rounds 3 ?_
  rw [rounds_succ]
  go_wp2_with (at_builtin; refine wpList_append_lit (.tmp 23) (.tmp 29) 24 rfl 5 i0 Try.underlying24 HI.out.1 HI.out.2.1 HI.out.2.2.1 HI.out.2.2.2 w.heap.size v' (0 + l.length) ([] ++ u8s l) (by simp [Act.eval, Act.put]) w1 O1.out [n / 256] _ rfl 1 rfl (by simp [Act.eval, Act.put]) (by simp [Region.wanted]) (by simp; omega) (by omega) ?_; intro v2 w2 hown2 hb2)
  have O2 := hide_ hown2
  have b2 := b1.trans hb2
  have hs2 := b2.size
  clear hown2 hb2 O1
  rw [rounds_succ]
  go_wp2_with (at_builtin; refine wpList_append_lit (.tmp 23) (.tmp 29) 24 rfl 5 i0 Try.underlying24 HI.out.1 HI.out.2.1 HI.out.2.2.1 HI.out.2.2.2 w.heap.size v2 ((0 + l.length) + [n / 256].length) (([] ++ u8s l) ++ u8s [n / 256]) (by simp [Act.eval, Act.put]) w2 O2.out [n % 256] _ rfl 1 rfl (by simp [Act.eval, Act.put]) (by simp [Region.wanted]) (by simp; omega) (by omega) ?_; intro v3 w3 hown3 hb3)
  have O3 := hide_ hown3
  have b3 := b2.trans hb3
  have hs3 := b3.size
  clear hown3 hb3 O2
  rw [rounds_succ]
  go_wp2
  go_ret
  exact ⟨_, rfl, by have := O3.out; simpa [u8s] using this, b3⟩

set_option maxHeartbeats 1000000 in
theorem rput_4 (v : Value) (l : List Int) (n : Int) (w : World) (hB : Bytes w v l) (hl : l.length ≤ 100000000000000) (h0 : 0 ≤ n) (h1 : n < 4294967296) :
    Calls Try.prog 23 #[v, .int .i64 n, .int .i64 4] w fun e w' => ∃ r, e = .returned r ∧ w'.ownsRow w.heap.size 5 1 r (l.length + 4) (u8s l ++ u8s [n / 16777216, n / 65536 % 256, n / 256 % 256, n % 256]) ∧ Below w.heap.size w w' := by
  have hr := rightB_in4 h0 h1
  have HB := hide_ hB
  clear hB
  obtain ⟨i0, hi0, hz0, hz1, hz2⟩ := info_parts info5
  have HI : Hid (Try.prog.info? 5 = some i0 ∧ i0.zero = some (.int .u8 0) ∧ i0.size = 1 ∧ i0.bytes = 1) := ⟨hi0, hz0, hz1, hz2⟩
  clear hi0 hz0 hz1 hz2
  go_enter Try.func23, Try.ntmps23
  go_wp2_with (first | (at_builtin; refine wpList_append_ownB rfl (.tmp 9) (.tmp 10) 24 rfl w.heap.size 5 i0 Try.underlying24 HI.out.1 HI.out.2.1 HI.out.2.2.1 HI.out.2.2.2 (.slice (some ⟨w.heap.size, 0, none⟩) 0 0) 0 [] (by simp [Act.eval, Act.put]) (World.ownsRow_made w #[] 0 (Nat.le_refl _) (Nat.zero_le _) rfl) v l (by simp [Act.eval, Act.put]) (HB.out.later (by go_grown)) (by omega) (by simp) ?_; intro v' w1 hown hg) | (go_at_call 21; refine (rright_any _ _ _).mono ?_; rintro e w' ⟨rfl, rfl⟩))
  have b1 : Below w.heap.size w w1 := (by go_grown : Below w.heap.size w (w.alloc (.cells #[] 5))).trans (below_grown hg _ (by simp) (by simp [Value.ownBlock]))
  have hs1 := b1.size
  have O1 := hide_ hown
  clear hown hg
  refine wp_loop_rounds 5 ?_
  rw [rounds_succ]
  go_wp2_with (at_builtin; refine wpList_append_lit (.tmp 23) (.tmp 29) 24 rfl 5 i0 Try.underlying24 HI.out.1 HI.out.2.1 HI.out.2.2.1 HI.out.2.2.2 w.heap.size v' (0 + l.length) ([] ++ u8s l) (by simp [Act.eval, Act.put]) w1 O1.out [n / 16777216] _ rfl 1 rfl (by simp [Act.eval, Act.put]) (by simp [Region.wanted]) (by simp; omega) (by omega) ?_; intro v2 w2 hown2 hb2)
  have O2 := hide_ hown2
  have b2 := b1.trans hb2
  have hs2 := b2.size
  clear hown2 hb2 O1
  rw [rounds_succ]
  go_wp2_with (at_builtin; refine wpList_append_lit (.tmp 23) (.tmp 29) 24 rfl 5 i0 Try.underlying24 HI.out.1 HI.out.2.1 HI.out.2.2.1 HI.out.2.2.2 w.heap.size v2 ((0 + l.length) + [n / 16777216].length) (([] ++ u8s l) ++ u8s [n / 16777216]) (by simp [Act.eval, Act.put]) w2 O2.out [n / 65536 % 256] _ rfl 1 rfl (by simp [Act.eval, Act.put]) (by simp [Region.wanted]) (by simp; omega) (by omega) ?_; intro v3 w3 hown3 hb3)
  have O3 := hide_ hown3
  have b3 := b2.trans hb3
  have hs3 := b3.size
  clear hown3 hb3 O2
  rw [rounds_succ]
  go_wp2_with (at_builtin; refine wpList_append_lit (.tmp 23) (.tmp 29) 24 rfl 5 i0 Try.underlying24 HI.out.1 HI.out.2.1 HI.out.2.2.1 HI.out.2.2.2 w.heap.size v3 ((0 + l.length) + [n / 16777216].length + [n / 65536 % 256].length) (([] ++ u8s l) ++ u8s [n / 16777216] ++ u8s [n / 65536 % 256]) (by simp [Act.eval, Act.put]) w3 O3.out [n / 256 % 256] _ rfl 1 rfl (by simp [Act.eval, Act.put]) (by simp [Region.wanted]) (by simp; omega) (by omega) ?_; intro v4 w4 hown4 hb4)
  have O4 := hide_ hown4
  have b4 := b3.trans hb4
  have hs4 := b4.size
  clear hown4 hb4 O3
  rw [rounds_succ]
  go_wp2_with (at_builtin; refine wpList_append_lit (.tmp 23) (.tmp 29) 24 rfl 5 i0 Try.underlying24 HI.out.1 HI.out.2.1 HI.out.2.2.1 HI.out.2.2.2 w.heap.size v4 ((0 + l.length) + [n / 16777216].length + [n / 65536 % 256].length + [n / 256 % 256].length) (([] ++ u8s l) ++ u8s [n / 16777216] ++ u8s [n / 65536 % 256] ++ u8s [n / 256 % 256]) (by simp [Act.eval, Act.put]) w4 O4.out [n % 256] _ rfl 1 rfl (by simp [Act.eval, Act.put]) (by simp [Region.wanted]) (by simp; omega) (by omega) ?_; intro v5 w5 hown5 hb5)
  have O5 := hide_ hown5
  have b5 := b4.trans hb5
  have hs5 := b5.size
  clear hown5 hb5 O4
  rw [rounds_succ]
  go_wp2
  go_ret
  exact ⟨_, rfl, by have := O5.out; simpa [u8s] using this, b5⟩

theorem rput_any (v : Value) (l : List Int) (n s : Int) (w : World) (hB : Bytes w v l) (hl : l.length ≤ 100000000000000) (hr : rightB n s = true) :
    Calls Try.prog 23 #[v, .int .i64 n, .int .i64 s] w fun e w' => ∃ r, e = .returned r ∧ w'.ownsRow w.heap.size 5 1 r (l ++ spl n s).length (u8s (l ++ spl n s)) ∧ Below w.heap.size w w' := by
  simp only [rightB, Bool.and_eq_true, decide_eq_true_eq] at hr
  obtain ⟨hs, h0, h1⟩ := hr
  rcases szB_true hs with rfl | rfl | rfl
  · have h1 : n < 256 := by simpa [lim] using h1
    have em : n % 256 = n := by omega
    refine (rput_1 v l n w hB hl h0 h1).mono fun e w' ⟨r, he, ho, hb⟩ => ⟨r, he, ?_, hb⟩
    simpa [spl, u8s_append, em] using ho
  · have h1 : n < 65536 := by simpa [lim] using h1
    have em : n / 256 % 256 = n / 256 := by omega
    refine (rput_2 v l n w hB hl h0 h1).mono fun e w' ⟨r, he, ho, hb⟩ => ⟨r, he, ?_, hb⟩
    simpa [spl, u8s_append, em] using ho
  · refine (rput_4 v l n w hB hl h0 (by simpa [lim] using h1)).mono fun e w' ⟨r, he, ho, hb⟩ => ⟨r, he, ?_, hb⟩
    simpa [spl, u8s_append] using ho

end Go.Proofs.Ytfeioclnhnipmaa
