import Derived.Test.YtfeioclnhnipmaaProg
import Derived.Test.YtfeioclnhnipmaaK
import Derived.Test.YtfeioclnhnipmaaD
import Derived.Test.YtfeioclnhnipmaaF
import Derived.Test.YtfeioclnhnipmaaG
import Derived.Below
import Derived.BigQuiet
import Derived.BigRegion
import Derived.Deep.QuietTactic
import Derived.Deep.RegionHeld3
import Derived.Deep.RegionLaw
import Derived.Deep.RegionLawGrows
import Derived.Handy
import Derived.Laws.AppendOwn
import Derived.Laws.AppendOwnNone
import Derived.Laws.BitsAllLaws
import Derived.Laws.BitsLemmas
import Derived.Laws.CopyOwn
import Derived.Laws.OwnMore
import Derived.Laws.Rows
import Derived.Laws.StructEq
import Derived.OpenShut
import Derived.ProofKit
import Derived.RegionTactic
import Derived.WalkKit
import Derived.WalkLawsBesides
import Derived.WalkSmall
import Derived.WalkSpells
namespace Go.Proofs.Ytfeioclnhnipmaa
open Go Go.RowKit
set_option linter.unusedVariables false
set_option linter.unusedSimpArgs false
open Go.RowKit

theorem ownsRow_base {w : World} {base base' : Nat} {e : TypeId} {size : Nat} {v : Value} {n : Nat} {xs : List Value} (h : w.ownsRow base e size v n xs) (hb : base' ≤ base) : w.ownsRow base' e size v n xs := by
  refine ⟨h.1, ?_⟩
  rcases h.2 with h | ⟨g, cap, cur, h1, h2, r⟩
  · exact .inl h
  · exact .inr ⟨g, cap, cur, h1, by omega, r⟩

theorem Bytes.bounds {w : World} {a : Option Addr} {n cap : Nat} {l : List Int} (h : Bytes w (.slice a n cap) l) : n = l.length ∧ l.length ≤ cap ∧ cap ≤ 2 ^ 63 - 1 ∧ (a = none → l.length = 0) := by
  obtain ⟨a', cap', e, h1, h2, h3, h4, h5⟩ := h
  cases e
  unfold maxLen at h2
  exact ⟨rfl, h1, h2, fun e => by have := h4 e; omega⟩

theorem Bytes.olds {w w1 : World} {a : Option Addr} {n cap : Nat} {l : List Int} (h : Bytes w (.slice a n cap) l) (hb : Below w.heap.size w w1) :
    ∀ b, a = some b → ∀ j u, (u8s l)[j]? = some u → w1.cell? (b.add j) = some u := by
  obtain ⟨a', cap', e, h1, h2, h3, h4, h5⟩ := h
  cases e
  intro b hb' j u hu
  unfold u8s at hu
  rw [List.getElem?_map] at hu
  cases hj : l[j]? with
  | none => rw [hj] at hu; cases hu
  | some z => rw [hj] at hu; cases hu; exact cell_later hb (h5 b hb' j z hj)

theorem news_at (w : World) (c : Array Value) (t : TypeId) (off j : Nat) (u : Value) (h : c[off + j]? = some u) : (w.alloc (.cells c t)).drew.cell? ((⟨w.heap.size, off, none⟩ : Addr).add j) = some u := by
  rw [Addr.add_lit]
  show (w.alloc (.cells c t)).cell? ⟨w.heap.size, off + j, none⟩ = some u
  rw [World.cell?_alloc_new]
  exact h

/-- the bytes of a number, the highest first -/
def spl (n s : Int) : List Int := if s = 1 then [n % 256] else if s = 2 then [n / 256 % 256, n % 256] else [n / 16777216, n / 65536 % 256, n / 256 % 256, n % 256]

set_option maxHeartbeats 400000 in
theorem put_no (v : Value) (l : List Int) (n s : Int) (w : World) (hB : Bytes w v l) (hl : l.length ≤ 100000000000000) (hr : rightB n s = false) :
    Calls Try.prog 19 #[v, .int .i64 n, .int .i64 s] w fun e w' => ∃ r, e = .returned r ∧ w'.ownsRow w.heap.size 5 1 r l.length (u8s l) ∧ Below w.heap.size w w' := by
  have HB : Hid (Bytes w v l) := hB
  clear hB
  go_enter Try.func19, Try.ntmps19
  go_wp2_with (first | (go_at_call 17; refine (right_any _ _ _).mono ?_; rintro e w' ⟨rfl, rfl⟩) | (go_at_call 26; refine (bclone_any v l _ HB.out hl).mono ?_; rintro e w' ⟨r, rfl, hown, hbel⟩))
  go_ret
  exact ⟨r, rfl, hown, hbel⟩

theorem news1 (n : Int) (w : World) : ∀ (j : Nat) (u : Value), (u8s [n % 256])[j]? = some u → (w.alloc (.cells #[.int .u8 (n / 16777216), .int .u8 (n / 65536 % 256), .int .u8 (n / 256 % 256), .int .u8 (n % 256)] 53)).drew.cell? ((⟨w.heap.size, 3, none⟩ : Addr).add j) = some u := fun j u h =>
  match j, u, h with
    | 0, u, h => by cases h; exact news_at _ _ _ 3 0 _ rfl
    | j + 1, u, h => by simp [u8s] at h

set_option maxHeartbeats 1000000 in
theorem put_1 (ao : Option Addr) (cap : Nat) (l : List Int) (n : Int) (w : World) (hB : Bytes w (.slice ao l.length cap) l) (hl : l.length ≤ 100000000000000) (h0 : 0 ≤ n) (h1 : n < 256) :
    Calls Try.prog 19 #[.slice ao l.length cap, .int .i64 n, .int .i64 1] w fun e w' => ∃ r, e = .returned r ∧ w'.ownsRow w.heap.size 5 1 r (l.length + 1) (u8s l ++ u8s [n % 256]) ∧ Below w.heap.size w w' := by
  have hr := rightB_in1 h0 h1
  obtain ⟨_, hc1, hc2, hc3⟩ := hB.bounds
  have HB : Hid (Bytes w (.slice ao l.length cap) l) := hB
  have HC3 : Hid _ := hc3
  clear hB hc3
  obtain ⟨i0, hi0, hz0, hz1, hz2⟩ := info_parts info5
  have HI : Hid (Try.prog.info? 5 = some i0 ∧ i0.zero = some (.int .u8 0) ∧ i0.size = 1 ∧ i0.bytes = 1) := ⟨hi0, hz0, hz1, hz2⟩
  clear hi0 hz0 hz1 hz2
  go_enter Try.func19, Try.ntmps19
  go_wp2_with (first | (go_at_call 17; refine (right_any _ _ _).mono ?_; rintro e w' ⟨rfl, rfl⟩) | (go_at_call 31; refine (spell_any _ _ h0 (by omega)).mono ?_; rintro e w1 ⟨rfl, hbel⟩))
  have e3 : IntKind.i64.wrap 3 = 3 := by decide
  have f1 : (0 : Int) ≤ (l.length : Int) := by omega
  have f2 : (l.length : Int) ≤ (cap : Int) := by omega
  go_region_law (refine step_append_grows rfl (.tmp 21) (.tmp 24) 24 rfl 5 i0 (.int .u8 0) 1 1 Try.underlying24 HI.out.1 HI.out.2.1 HI.out.2.2.1 HI.out.2.2.2 rfl (by decide) ao l.length l.length (u8s l) (by simp [Act.eval, Act.put]) (fun e => ⟨HC3.out e, HC3.out e⟩) (by simp [u8s]) (HB.out.olds (hbel.trans (by have := hbel.size; go_grown))) ⟨w1.heap.size, 3, none⟩ 1 1 (u8s [n % 256]) (by simp [Act.eval, Act.put]) (by simp [u8s]) (news1 n w1) (u8s_one _) (by omega) (by unfold maxLen; omega) (by omega) ?_; intro v' w2 hown hg)
  clear f1 f2 e3 HI HB HC3
  go_wp2
  go_ret
  exact ⟨v', rfl, ownsRow_base hown (by have := hbel.size; simp; omega), (hbel.trans (by have := hbel.size; go_grown)).trans (below_grown hg _ (by have := hbel.size; simp; omega) (fun _ e => by cases e))⟩

theorem news2 (n : Int) (w : World) : ∀ (j : Nat) (u : Value), (u8s [n / 256 % 256, n % 256])[j]? = some u → (w.alloc (.cells #[.int .u8 (n / 16777216), .int .u8 (n / 65536 % 256), .int .u8 (n / 256 % 256), .int .u8 (n % 256)] 53)).drew.cell? ((⟨w.heap.size, 2, none⟩ : Addr).add j) = some u := fun j u h =>
  match j, u, h with
    | 0, u, h => by cases h; exact news_at _ _ _ 2 0 _ rfl
    | 1, u, h => by cases h; exact news_at _ _ _ 2 1 _ rfl
    | j + 2, u, h => by simp [u8s] at h

set_option maxHeartbeats 1000000 in
theorem put_2 (ao : Option Addr) (cap : Nat) (l : List Int) (n : Int) (w : World) (hB : Bytes w (.slice ao l.length cap) l) (hl : l.length ≤ 100000000000000) (h0 : 0 ≤ n) (h1 : n < 65536) :
    Calls Try.prog 19 #[.slice ao l.length cap, .int .i64 n, .int .i64 2] w fun e w' => ∃ r, e = .returned r ∧ w'.ownsRow w.heap.size 5 1 r (l.length + 2) (u8s l ++ u8s [n / 256 % 256, n % 256]) ∧ Below w.heap.size w w' := by
  have hr := rightB_in2 h0 h1
  obtain ⟨_, hc1, hc2, hc3⟩ := hB.bounds
  have HB : Hid (Bytes w (.slice ao l.length cap) l) := hB
  have HC3 : Hid _ := hc3
  clear hB hc3
  obtain ⟨i0, hi0, hz0, hz1, hz2⟩ := info_parts info5
  have HI : Hid (Try.prog.info? 5 = some i0 ∧ i0.zero = some (.int .u8 0) ∧ i0.size = 1 ∧ i0.bytes = 1) := ⟨hi0, hz0, hz1, hz2⟩
  clear hi0 hz0 hz1 hz2
  go_enter Try.func19, Try.ntmps19
  go_wp2_with (first | (go_at_call 17; refine (right_any _ _ _).mono ?_; rintro e w' ⟨rfl, rfl⟩) | (go_at_call 31; refine (spell_any _ _ h0 (by omega)).mono ?_; rintro e w1 ⟨rfl, hbel⟩))
  have e3 : IntKind.i64.wrap 2 = 2 := by decide
  have f1 : (0 : Int) ≤ (l.length : Int) := by omega
  have f2 : (l.length : Int) ≤ (cap : Int) := by omega
  go_region_law (refine step_append_grows rfl (.tmp 21) (.tmp 24) 24 rfl 5 i0 (.int .u8 0) 1 1 Try.underlying24 HI.out.1 HI.out.2.1 HI.out.2.2.1 HI.out.2.2.2 rfl (by decide) ao l.length l.length (u8s l) (by simp [Act.eval, Act.put]) (fun e => ⟨HC3.out e, HC3.out e⟩) (by simp [u8s]) (HB.out.olds (hbel.trans (by have := hbel.size; go_grown))) ⟨w1.heap.size, 2, none⟩ 2 2 (u8s [n / 256 % 256, n % 256]) (by simp [Act.eval, Act.put]) (by simp [u8s]) (news2 n w1) (u8s_one _) (by omega) (by unfold maxLen; omega) (by omega) ?_; intro v' w2 hown hg)
  clear f1 f2 e3 HI HB HC3
  go_wp2
  go_ret
  exact ⟨v', rfl, ownsRow_base hown (by have := hbel.size; simp; omega), (hbel.trans (by have := hbel.size; go_grown)).trans (below_grown hg _ (by have := hbel.size; simp; omega) (fun _ e => by cases e))⟩

theorem news4 (n : Int) (w : World) : ∀ (j : Nat) (u : Value), (u8s [n / 16777216, n / 65536 % 256, n / 256 % 256, n % 256])[j]? = some u → (w.alloc (.cells #[.int .u8 (n / 16777216), .int .u8 (n / 65536 % 256), .int .u8 (n / 256 % 256), .int .u8 (n % 256)] 53)).drew.cell? ((⟨w.heap.size, 0, none⟩ : Addr).add j) = some u := fun j u h =>
  match j, u, h with
    | 0, u, h => by cases h; exact news_at _ _ _ 0 0 _ rfl
    | 1, u, h => by cases h; exact news_at _ _ _ 0 1 _ rfl
    | 2, u, h => by cases h; exact news_at _ _ _ 0 2 _ rfl
    | 3, u, h => by cases h; exact news_at _ _ _ 0 3 _ rfl
    | j + 4, u, h => by simp [u8s] at h

set_option maxHeartbeats 1000000 in
theorem put_4 (ao : Option Addr) (cap : Nat) (l : List Int) (n : Int) (w : World) (hB : Bytes w (.slice ao l.length cap) l) (hl : l.length ≤ 100000000000000) (h0 : 0 ≤ n) (h1 : n < 4294967296) :
    Calls Try.prog 19 #[.slice ao l.length cap, .int .i64 n, .int .i64 4] w fun e w' => ∃ r, e = .returned r ∧ w'.ownsRow w.heap.size 5 1 r (l.length + 4) (u8s l ++ u8s [n / 16777216, n / 65536 % 256, n / 256 % 256, n % 256]) ∧ Below w.heap.size w w' := by
  have hr := rightB_in4 h0 h1
  obtain ⟨_, hc1, hc2, hc3⟩ := hB.bounds
  have HB : Hid (Bytes w (.slice ao l.length cap) l) := hB
  have HC3 : Hid _ := hc3
  clear hB hc3
  obtain ⟨i0, hi0, hz0, hz1, hz2⟩ := info_parts info5
  have HI : Hid (Try.prog.info? 5 = some i0 ∧ i0.zero = some (.int .u8 0) ∧ i0.size = 1 ∧ i0.bytes = 1) := ⟨hi0, hz0, hz1, hz2⟩
  clear hi0 hz0 hz1 hz2
  go_enter Try.func19, Try.ntmps19
  go_wp2_with (first | (go_at_call 17; refine (right_any _ _ _).mono ?_; rintro e w' ⟨rfl, rfl⟩) | (go_at_call 31; refine (spell_any _ _ h0 (by omega)).mono ?_; rintro e w1 ⟨rfl, hbel⟩))
  have e3 : IntKind.i64.wrap 0 = 0 := by decide
  have f1 : (0 : Int) ≤ (l.length : Int) := by omega
  have f2 : (l.length : Int) ≤ (cap : Int) := by omega
  go_region_law (refine step_append_grows rfl (.tmp 21) (.tmp 24) 24 rfl 5 i0 (.int .u8 0) 1 1 Try.underlying24 HI.out.1 HI.out.2.1 HI.out.2.2.1 HI.out.2.2.2 rfl (by decide) ao l.length l.length (u8s l) (by simp [Act.eval, Act.put]) (fun e => ⟨HC3.out e, HC3.out e⟩) (by simp [u8s]) (HB.out.olds (hbel.trans (by have := hbel.size; go_grown))) ⟨w1.heap.size, 0, none⟩ 4 4 (u8s [n / 16777216, n / 65536 % 256, n / 256 % 256, n % 256]) (by simp [Act.eval, Act.put]) (by simp [u8s]) (news4 n w1) (u8s_one _) (by omega) (by unfold maxLen; omega) (by omega) ?_; intro v' w2 hown hg)
  clear f1 f2 e3 HI HB HC3
  go_wp2
  go_ret
  exact ⟨v', rfl, ownsRow_base hown (by have := hbel.size; simp; omega), (hbel.trans (by have := hbel.size; go_grown)).trans (below_grown hg _ (by have := hbel.size; simp; omega) (fun _ e => by cases e))⟩

theorem put_any (v : Value) (l : List Int) (n s : Int) (w : World) (hB : Bytes w v l) (hl : l.length ≤ 100000000000000) (hr : rightB n s = true) :
    Calls Try.prog 19 #[v, .int .i64 n, .int .i64 s] w fun e w' => ∃ r, e = .returned r ∧ w'.ownsRow w.heap.size 5 1 r (l ++ spl n s).length (u8s (l ++ spl n s)) ∧ Below w.heap.size w w' := by
  have hB0 := hB
  obtain ⟨ao, cap, rfl, _⟩ := hB
  simp only [rightB, Bool.and_eq_true, decide_eq_true_eq] at hr
  obtain ⟨hs, h0, h1⟩ := hr
  rcases szB_true hs with rfl | rfl | rfl
  · refine (put_1 ao cap l n w hB0 hl h0 (by simpa [lim] using h1)).mono fun e w' ⟨r, he, ho, hb⟩ => ⟨r, he, ?_, hb⟩
    simpa [spl, u8s_append] using ho
  · refine (put_2 ao cap l n w hB0 hl h0 (by simpa [lim] using h1)).mono fun e w' ⟨r, he, ho, hb⟩ => ⟨r, he, ?_, hb⟩
    simpa [spl, u8s_append] using ho
  · refine (put_4 ao cap l n w hB0 hl h0 (by simpa [lim] using h1)).mono fun e w' ⟨r, he, ho, hb⟩ => ⟨r, he, ?_, hb⟩
    simpa [spl, u8s_append] using ho

end Go.Proofs.Ytfeioclnhnipmaa
