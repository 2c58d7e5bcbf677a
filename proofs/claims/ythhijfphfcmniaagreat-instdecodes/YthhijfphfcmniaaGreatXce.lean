import Derived.Test.YthhijfphfcmniaaGreatProg
import Derived.Test.YthhijfphfcmniaaGreatXae
import Derived.Below
import Derived.BigQuiet
import Derived.BigRegion
import Derived.Deep.QuietTactic
import Derived.Deep.RegionHeld3
import Derived.Deep.RegionLaw
import Derived.Deep.RegionLawGrows
import Derived.Handy
import Derived.Laws.AppendOwn
import Derived.Laws.AppendOwnNone
import Derived.Laws.BitsAllLaws
import Derived.Laws.BitsLemmas
import Derived.Laws.CopyOwn
import Derived.Laws.OwnMore
import Derived.Laws.Rows
import Derived.Laws.StructEq
import Derived.OpenShut
import Derived.ProofKit
import Derived.RegionTactic
import Derived.WalkKit
import Derived.WalkLawsBesides
import Derived.WalkSmall
import Derived.WalkSpells
set_option maxRecDepth 100000
set_option maxHeartbeats 8000000
set_option linter.unusedVariables false
set_option linter.unusedSimpArgs false
namespace Go.Proofs.YthhijfphfcmniaaGreat
section
open Go Go.RowKit
open Go.RowKit
theorem info5 : (Tryz.prog.info? 5).map (fun i => (i.zero, i.size, i.bytes)) = some (some (.int .u8 0), 1, 1) := by kernel_rfl
theorem bclone_any (v : Value) (l : List Int) (w : World) (hB : Bytes w v l) (hl : l.length ≤ 100000000000000) :
    Calls Tryz.prog 108 #[v] w fun e w' => ∃ r, e = .returned r ∧ w'.ownsRow w.heap.size 5 1 r l.length (u8s l) ∧ Below w.heap.size w w' := by
  obtain ⟨a, cap, rfl, h1, h2, h3, h4, h5⟩ := hB
  cases a with
  | none =>
    have hc := h4 rfl
    subst hc
    have hl : l = [] := List.eq_nil_of_length_eq_zero (by omega)
    subst hl
    simp only [List.length_nil]
    clear h1 h2 h3 h4 h5
    have hn := fun wx => Lib.run_eql_slice_nil (P := Tryz.prog) wx 25 5 none 0 0 0 0 Tryz.underlying25
    go_enter Tryz.func108, Tryz.ntmps108
    go_wp2
    go_ret
    exact ⟨_, rfl, World.ownsRow_nil _ _ _ _, Below.refl _ _⟩
  | some ad =>
    have hn := fun wx => Lib.run_eql_slice_nil (P := Tryz.prog) wx 25 5 (some ad) l.length cap 0 0 Tryz.underlying25
    have HB : Hid (Bytes w (.slice (some ad) l.length cap) l) := ⟨_, _, rfl, h1, h2, h3, h4, h5⟩
    clear h3 h4 h5
    unfold maxLen at h2
    obtain ⟨i0, hi0, hz0, hz1, hz2⟩ := info_parts info5
    have HI : Hid (Tryz.prog.info? 5 = some i0 ∧ i0.zero = some (.int .u8 0) ∧ i0.size = 1 ∧ i0.bytes = 1) := ⟨hi0, hz0, hz1, hz2⟩
    clear hi0 hz0 hz1 hz2
    go_enter Tryz.func108, Tryz.ntmps108
    go_wp2_with (at_builtin; refine wpList_append_ownB rfl (.tmp 5) (.tmp 6) 25 rfl w.heap.size 5 i0 Tryz.underlying25 HI.out.1 HI.out.2.1 HI.out.2.2.1 HI.out.2.2.2 (.slice (some ⟨w.heap.size, 0, none⟩) 0 0) 0 [] (by simp [Act.eval, Act.put]) (World.ownsRow_made w #[] 0 (Nat.le_refl _) (Nat.zero_le _) rfl) (.slice (some ad) l.length cap) l (by simp [Act.eval, Act.put]) (HB.out.later (by go_grown)) (by omega) (by simp) ?_; intro v' w' hown hg)
    go_ret
    exact ⟨_, rfl, by simpa using hown, (by go_grown : Below w.heap.size w (w.alloc (.cells #[] 5))).trans (below_grown hg _ (by simp) (by simp [Value.ownBlock]))⟩
theorem Bytes.at {w : World} {a : Option Addr} {n cap : Nat} {l : List Int} (h : Bytes w (.slice a n cap) l) : n = l.length ∧ l.length ≤ maxLen ∧ isB l ∧ ∀ j z, l[j]? = some z → ∃ b off, a = some ⟨b, off, none⟩ ∧ w.cell? ⟨b, off + j, none⟩ = some (.int .u8 z) := by
  obtain ⟨a', cap', e, h1, h2, h3, h4, h5⟩ := h
  cases e
  refine ⟨rfl, Nat.le_trans h1 h2, h3, fun j z hz => ?_⟩
  cases a with
  | none =>
    have := h4 rfl
    subst this
    have hl : l = [] := List.eq_nil_of_length_eq_zero (by omega)
    subst hl
    simp at hz
  | some ad =>
    have hc := h5 ad rfl j z hz
    obtain ⟨b, off, spot⟩ := ad
    have hspot : spot = none := by
      have hj : j < l.length := (List.getElem?_eq_some_iff.1 hz).1
      have hc0 := h5 _ rfl 0 l[0] (List.getElem?_eq_getElem (by omega))
      simpa [Addr.add] using World.cell?_spot hc0
    subst hspot
    exact ⟨b, off, rfl, by rw [Addr.add_lit] at hc; exact hc⟩
open Go.RowKit
theorem ownsRow_base {w : World} {base base' : Nat} {e : TypeId} {size : Nat} {v : Value} {n : Nat} {xs : List Value} (h : w.ownsRow base e size v n xs) (hb : base' ≤ base) : w.ownsRow base' e size v n xs := by
  refine ⟨h.1, ?_⟩
  rcases h.2 with h | ⟨g, cap, cur, h1, h2, r⟩
  · exact .inl h
  · exact .inr ⟨g, cap, cur, h1, by omega, r⟩
theorem Bytes.bounds {w : World} {a : Option Addr} {n cap : Nat} {l : List Int} (h : Bytes w (.slice a n cap) l) : n = l.length ∧ l.length ≤ cap ∧ cap ≤ 2 ^ 63 - 1 ∧ (a = none → l.length = 0) := by
  obtain ⟨a', cap', e, h1, h2, h3, h4, h5⟩ := h
  cases e
  unfold maxLen at h2
  exact ⟨rfl, h1, h2, fun e => by have := h4 e; omega⟩
theorem Bytes.olds {w w1 : World} {a : Option Addr} {n cap : Nat} {l : List Int} (h : Bytes w (.slice a n cap) l) (hb : Below w.heap.size w w1) :
    ∀ b, a = some b → ∀ j u, (u8s l)[j]? = some u → w1.cell? (b.add j) = some u := by
  obtain ⟨a', cap', e, h1, h2, h3, h4, h5⟩ := h
  cases e
  intro b hb' j u hu
  unfold u8s at hu
  rw [List.getElem?_map] at hu
  cases hj : l[j]? with
  | none => rw [hj] at hu; cases hu
  | some z => rw [hj] at hu; cases hu; exact cell_later hb (h5 b hb' j z hj)
theorem news_at (w : World) (c : Array Value) (t : TypeId) (off j : Nat) (u : Value) (h : c[off + j]? = some u) : (w.alloc (.cells c t)).drew.cell? ((⟨w.heap.size, off, none⟩ : Addr).add j) = some u := by
  rw [Addr.add_lit]
  show (w.alloc (.cells c t)).cell? ⟨w.heap.size, off + j, none⟩ = some u
  rw [World.cell?_alloc_new]
  exact h
def spl (n s : Int) : List Int := if s = 1 then [n % 256] else if s = 2 then [n / 256 % 256, n % 256] else [n / 16777216, n / 65536 % 256, n / 256 % 256, n % 256]
theorem news1 (n : Int) (w : World) : ∀ (j : Nat) (u : Value), (u8s [n % 256])[j]? = some u → (w.alloc (.cells #[.int .u8 (n / 16777216), .int .u8 (n / 65536 % 256), .int .u8 (n / 256 % 256), .int .u8 (n % 256)] 128)).drew.cell? ((⟨w.heap.size, 3, none⟩ : Addr).add j) = some u := fun j u h =>
  match j, u, h with
    | 0, u, h => by cases h; exact news_at _ _ _ 3 0 _ rfl
    | j + 1, u, h => by simp [u8s] at h
theorem put_1 (ao : Option Addr) (cap : Nat) (l : List Int) (n : Int) (w : World) (hB : Bytes w (.slice ao l.length cap) l) (hl : l.length ≤ 100000000000000) (h0 : 0 ≤ n) (h1 : n < 256) :
    Calls Tryz.prog 73 #[.slice ao l.length cap, .int .i64 n, .int .i64 1] w fun e w' => ∃ r, e = .returned r ∧ w'.ownsRow w.heap.size 5 1 r (l.length + 1) (u8s l ++ u8s [n % 256]) ∧ Below w.heap.size w w' := by
  have hr := rightB_in1 h0 h1
  obtain ⟨_, hc1, hc2, hc3⟩ := hB.bounds
  have HB : Hid (Bytes w (.slice ao l.length cap) l) := hB
  have HC3 : Hid _ := hc3
  clear hB hc3
  obtain ⟨i0, hi0, hz0, hz1, hz2⟩ := info_parts info5
  have HI : Hid (Tryz.prog.info? 5 = some i0 ∧ i0.zero = some (.int .u8 0) ∧ i0.size = 1 ∧ i0.bytes = 1) := ⟨hi0, hz0, hz1, hz2⟩
  clear hi0 hz0 hz1 hz2
  go_enter Tryz.func73, Tryz.ntmps73
  go_wp2_with (first | (go_at_call 98; refine (right_any _ _ _).mono ?_; rintro e w' ⟨rfl, rfl⟩) | (go_at_call 109; refine (spell_any _ _ h0 (by omega)).mono ?_; rintro e w1 ⟨rfl, hbel⟩))
  have e3 : IntKind.i64.wrap 3 = 3 := by decide
  have f1 : (0 : Int) ≤ (l.length : Int) := by omega
  have f2 : (l.length : Int) ≤ (cap : Int) := by omega
  go_region_law (refine step_append_grows rfl (.tmp 21) (.tmp 24) 25 rfl 5 i0 (.int .u8 0) 1 1 Tryz.underlying25 HI.out.1 HI.out.2.1 HI.out.2.2.1 HI.out.2.2.2 rfl (by decide) ao l.length l.length (u8s l) (by simp [Act.eval, Act.put]) (fun e => ⟨HC3.out e, HC3.out e⟩) (by simp [u8s]) (HB.out.olds (hbel.trans (by have := hbel.size; go_grown))) ⟨w1.heap.size, 3, none⟩ 1 1 (u8s [n % 256]) (by simp [Act.eval, Act.put]) (by simp [u8s]) (news1 n w1) (u8s_one _) (by omega) (by unfold maxLen; omega) (by omega) ?_; intro v' w2 hown hg)
  clear f1 f2 e3 HI HB HC3
  go_wp2
  go_ret
  exact ⟨v', rfl, ownsRow_base hown (by have := hbel.size; simp; omega), (hbel.trans (by have := hbel.size; go_grown)).trans (below_grown hg _ (by have := hbel.size; simp; omega) (fun _ e => by cases e))⟩
theorem news2 (n : Int) (w : World) : ∀ (j : Nat) (u : Value), (u8s [n / 256 % 256, n % 256])[j]? = some u → (w.alloc (.cells #[.int .u8 (n / 16777216), .int .u8 (n / 65536 % 256), .int .u8 (n / 256 % 256), .int .u8 (n % 256)] 128)).drew.cell? ((⟨w.heap.size, 2, none⟩ : Addr).add j) = some u := fun j u h =>
  match j, u, h with
    | 0, u, h => by cases h; exact news_at _ _ _ 2 0 _ rfl
    | 1, u, h => by cases h; exact news_at _ _ _ 2 1 _ rfl
    | j + 2, u, h => by simp [u8s] at h
theorem put_2 (ao : Option Addr) (cap : Nat) (l : List Int) (n : Int) (w : World) (hB : Bytes w (.slice ao l.length cap) l) (hl : l.length ≤ 100000000000000) (h0 : 0 ≤ n) (h1 : n < 65536) :
    Calls Tryz.prog 73 #[.slice ao l.length cap, .int .i64 n, .int .i64 2] w fun e w' => ∃ r, e = .returned r ∧ w'.ownsRow w.heap.size 5 1 r (l.length + 2) (u8s l ++ u8s [n / 256 % 256, n % 256]) ∧ Below w.heap.size w w' := by
  have hr := rightB_in2 h0 h1
  obtain ⟨_, hc1, hc2, hc3⟩ := hB.bounds
  have HB : Hid (Bytes w (.slice ao l.length cap) l) := hB
  have HC3 : Hid _ := hc3
  clear hB hc3
  obtain ⟨i0, hi0, hz0, hz1, hz2⟩ := info_parts info5
  have HI : Hid (Tryz.prog.info? 5 = some i0 ∧ i0.zero = some (.int .u8 0) ∧ i0.size = 1 ∧ i0.bytes = 1) := ⟨hi0, hz0, hz1, hz2⟩
  clear hi0 hz0 hz1 hz2
  go_enter Tryz.func73, Tryz.ntmps73
  go_wp2_with (first | (go_at_call 98; refine (right_any _ _ _).mono ?_; rintro e w' ⟨rfl, rfl⟩) | (go_at_call 109; refine (spell_any _ _ h0 (by omega)).mono ?_; rintro e w1 ⟨rfl, hbel⟩))
  have e3 : IntKind.i64.wrap 2 = 2 := by decide
  have f1 : (0 : Int) ≤ (l.length : Int) := by omega
  have f2 : (l.length : Int) ≤ (cap : Int) := by omega
  go_region_law (refine step_append_grows rfl (.tmp 21) (.tmp 24) 25 rfl 5 i0 (.int .u8 0) 1 1 Tryz.underlying25 HI.out.1 HI.out.2.1 HI.out.2.2.1 HI.out.2.2.2 rfl (by decide) ao l.length l.length (u8s l) (by simp [Act.eval, Act.put]) (fun e => ⟨HC3.out e, HC3.out e⟩) (by simp [u8s]) (HB.out.olds (hbel.trans (by have := hbel.size; go_grown))) ⟨w1.heap.size, 2, none⟩ 2 2 (u8s [n / 256 % 256, n % 256]) (by simp [Act.eval, Act.put]) (by simp [u8s]) (news2 n w1) (u8s_one _) (by omega) (by unfold maxLen; omega) (by omega) ?_; intro v' w2 hown hg)
  clear f1 f2 e3 HI HB HC3
  go_wp2
  go_ret
  exact ⟨v', rfl, ownsRow_base hown (by have := hbel.size; simp; omega), (hbel.trans (by have := hbel.size; go_grown)).trans (below_grown hg _ (by have := hbel.size; simp; omega) (fun _ e => by cases e))⟩
theorem news4 (n : Int) (w : World) : ∀ (j : Nat) (u : Value), (u8s [n / 16777216, n / 65536 % 256, n / 256 % 256, n % 256])[j]? = some u → (w.alloc (.cells #[.int .u8 (n / 16777216), .int .u8 (n / 65536 % 256), .int .u8 (n / 256 % 256), .int .u8 (n % 256)] 128)).drew.cell? ((⟨w.heap.size, 0, none⟩ : Addr).add j) = some u := fun j u h =>
  match j, u, h with
    | 0, u, h => by cases h; exact news_at _ _ _ 0 0 _ rfl
    | 1, u, h => by cases h; exact news_at _ _ _ 0 1 _ rfl
    | 2, u, h => by cases h; exact news_at _ _ _ 0 2 _ rfl
    | 3, u, h => by cases h; exact news_at _ _ _ 0 3 _ rfl
    | j + 4, u, h => by simp [u8s] at h
theorem put_4 (ao : Option Addr) (cap : Nat) (l : List Int) (n : Int) (w : World) (hB : Bytes w (.slice ao l.length cap) l) (hl : l.length ≤ 100000000000000) (h0 : 0 ≤ n) (h1 : n < 4294967296) :
    Calls Tryz.prog 73 #[.slice ao l.length cap, .int .i64 n, .int .i64 4] w fun e w' => ∃ r, e = .returned r ∧ w'.ownsRow w.heap.size 5 1 r (l.length + 4) (u8s l ++ u8s [n / 16777216, n / 65536 % 256, n / 256 % 256, n % 256]) ∧ Below w.heap.size w w' := by
  have hr := rightB_in4 h0 h1
  obtain ⟨_, hc1, hc2, hc3⟩ := hB.bounds
  have HB : Hid (Bytes w (.slice ao l.length cap) l) := hB
  have HC3 : Hid _ := hc3
  clear hB hc3
  obtain ⟨i0, hi0, hz0, hz1, hz2⟩ := info_parts info5
  have HI : Hid (Tryz.prog.info? 5 = some i0 ∧ i0.zero = some (.int .u8 0) ∧ i0.size = 1 ∧ i0.bytes = 1) := ⟨hi0, hz0, hz1, hz2⟩
  clear hi0 hz0 hz1 hz2
  go_enter Tryz.func73, Tryz.ntmps73
  go_wp2_with (first | (go_at_call 98; refine (right_any _ _ _).mono ?_; rintro e w' ⟨rfl, rfl⟩) | (go_at_call 109; refine (spell_any _ _ h0 (by omega)).mono ?_; rintro e w1 ⟨rfl, hbel⟩))
  have e3 : IntKind.i64.wrap 0 = 0 := by decide
  have f1 : (0 : Int) ≤ (l.length : Int) := by omega
  have f2 : (l.length : Int) ≤ (cap : Int) := by omega
  go_region_law (refine step_append_grows rfl (.tmp 21) (.tmp 24) 25 rfl 5 i0 (.int .u8 0) 1 1 Tryz.underlying25 HI.out.1 HI.out.2.1 HI.out.2.2.1 HI.out.2.2.2 rfl (by decide) ao l.length l.length (u8s l) (by simp [Act.eval, Act.put]) (fun e => ⟨HC3.out e, HC3.out e⟩) (by simp [u8s]) (HB.out.olds (hbel.trans (by have := hbel.size; go_grown))) ⟨w1.heap.size, 0, none⟩ 4 4 (u8s [n / 16777216, n / 65536 % 256, n / 256 % 256, n % 256]) (by simp [Act.eval, Act.put]) (by simp [u8s]) (news4 n w1) (u8s_one _) (by omega) (by unfold maxLen; omega) (by omega) ?_; intro v' w2 hown hg)
  clear f1 f2 e3 HI HB HC3
  go_wp2
  go_ret
  exact ⟨v', rfl, ownsRow_base hown (by have := hbel.size; simp; omega), (hbel.trans (by have := hbel.size; go_grown)).trans (below_grown hg _ (by have := hbel.size; simp; omega) (fun _ e => by cases e))⟩
theorem put_any (v : Value) (l : List Int) (n s : Int) (w : World) (hB : Bytes w v l) (hl : l.length ≤ 100000000000000) (hr : rightB n s = true) :
    Calls Tryz.prog 73 #[v, .int .i64 n, .int .i64 s] w fun e w' => ∃ r, e = .returned r ∧ w'.ownsRow w.heap.size 5 1 r (l ++ spl n s).length (u8s (l ++ spl n s)) ∧ Below w.heap.size w w' := by
  have hB0 := hB
  obtain ⟨ao, cap, rfl, _⟩ := hB
  simp only [rightB, Bool.and_eq_true, decide_eq_true_eq] at hr
  obtain ⟨hs, h0, h1⟩ := hr
  rcases szB_true hs with rfl | rfl | rfl
  · refine (put_1 ao cap l n w hB0 hl h0 (by simpa [lim] using h1)).mono fun e w' ⟨r, he, ho, hb⟩ => ⟨r, he, ?_, hb⟩
    simpa [spl, u8s_append] using ho
  · refine (put_2 ao cap l n w hB0 hl h0 (by simpa [lim] using h1)).mono fun e w' ⟨r, he, ho, hb⟩ => ⟨r, he, ?_, hb⟩
    simpa [spl, u8s_append] using ho
  · refine (put_4 ao cap l n w hB0 hl h0 (by simpa [lim] using h1)).mono fun e w' ⟨r, he, ho, hb⟩ => ⟨r, he, ?_, hb⟩
    simpa [spl, u8s_append] using ho
open Go.RowKit
theorem Bytes.lit (w : World) (l : List Int) (t : TypeId) (h : isB l) (hl : l.length ≤ 1000) : Bytes (w.alloc (.cells (u8s l).toArray t)) (.slice (some ⟨w.heap.size, 0, none⟩) l.length l.length) l := by
  refine ⟨_, _, rfl, Nat.le_refl _, by unfold maxLen; omega, h, (fun e => by cases e), fun ad e j z hz => ?_⟩
  cases e
  rw [Addr.add_lit, World.cell?_alloc_new]
  simp [u8s, hz]
theorem wpList_wanted {P : Program} {w : World} {ops : Array Oper} {rest : List Oper} {o : Oper} {a : Act} {Q : Exit → Act → World → Prop}
    (hw : Region.wanted o (yielded ops a.tmps) = true)
    (h : ∀ K : Act → World → Prop, (∀ a w, wpList P ops Q rest a w → K a w) → o.wp P a w K Q) : wpList P ops Q (o :: rest) a w :=
  wpList_step fun K hK => by rw [if_pos hw]; exact h K hK
theorem Bytes.isB_ {w : World} {v : Value} {l : List Int} (h : Bytes w v l) : isB l := by
  obtain ⟨a, cap, _, _, _, h, _⟩ := h; exact h
theorem Bytes.short {w : World} {v : Value} {l : List Int} (h : Bytes w v l) : ∃ a cap, v = .slice a l.length cap := by
  obtain ⟨a, cap, h, _⟩ := h; exact ⟨a, cap, h⟩
theorem hmB {w : World} {a : Option Addr} {n cap : Nat} {l : List Int} (hB : Bytes w (.slice a n cap) l) : n ≤ 9223372036854775807 := by obtain ⟨h0, h1, h2⟩ := Bytes.at hB; unfold maxLen at *; omega
theorem hmC {w : World} {a : Option Addr} {n cap : Nat} {l : List Int} (hB : Bytes w (.slice a n cap) l) : l.length ≤ 9223372036854775807 := by obtain ⟨_, _, h1⟩ := Bytes.at hB; unfold maxLen at *; omega
theorem hmC2 {w : World} {v : Value} {l : List Int} (hB : Bytes w v l) : l.length ≤ 9223372036854775807 := by obtain ⟨ao, cap, rfl, h1, h2, -⟩ := hB; unfold maxLen at h2; omega
end
end Go.Proofs.YthhijfphfcmniaaGreat
