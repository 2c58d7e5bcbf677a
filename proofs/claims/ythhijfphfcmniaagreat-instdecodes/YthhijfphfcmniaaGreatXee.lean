import Derived.Test.YthhijfphfcmniaaGreatProg
import Derived.Test.YthhijfphfcmniaaGreatXae
import Derived.Test.YthhijfphfcmniaaGreatXde
import Derived.Test.YthhijfphfcmniaaGreatXce
import Derived.Below
import Derived.BigQuiet
import Derived.BigRegion
import Derived.Deep.QuietTactic
import Derived.Deep.RegionHeld3
import Derived.Deep.RegionLaw
import Derived.Deep.RegionLawGrows
import Derived.Handy
import Derived.Laws.AppendOwn
import Derived.Laws.AppendOwnNone
import Derived.Laws.BitsAllLaws
import Derived.Laws.BitsLemmas
import Derived.Laws.CopyOwn
import Derived.Laws.OwnMore
import Derived.Laws.Rows
import Derived.Laws.StructEq
import Derived.OpenShut
import Derived.ProofKit
import Derived.RegionTactic
import Derived.WalkKit
import Derived.WalkLawsBesides
import Derived.WalkSmall
import Derived.WalkSpells
set_option maxRecDepth 100000
set_option maxHeartbeats 8000000
set_option linter.unusedVariables false
set_option linter.unusedSimpArgs false
namespace Go.Proofs.YthhijfphfcmniaaGreat
section
open Go Go.RowKit
def Two (w : World) (g : Nat) (x y : Nat) : Prop :=
  w.cell? ⟨g, 0, none⟩ = some (.int .u64 (x : Int)) ∧ w.cell? ⟨g, 1, none⟩ = some (.int .u64 (y : Int)) ∧ w.frozen? ⟨g, 0, none⟩ = false ∧ w.frozen? ⟨g, 1, none⟩ = false
theorem Two.lt {w : World} {g x y : Nat} (h : Two w g x y) : g < w.heap.size := World.block_lt_of_cell? w _ h.1
theorem Two.later {w w' : World} {g x y : Nat} (h : Two w g x y) (hb : Below w.heap.size w w') : Two w' g x y :=
  ⟨cell_later hb h.1, cell_later hb h.2.1, by rw [hb.frozen h.lt]; exact h.2.2.1, by rw [hb.frozen h.lt]; exact h.2.2.2⟩
theorem Two.set {w : World} {g x y : Nat} (h : Two w g x y) (u v : Nat) : Two ((w.setCell ⟨g, 0, none⟩ (.int .u64 (u : Int))).setCell ⟨g, 1, none⟩ (.int .u64 (v : Int))) g u v := by
  obtain ⟨h0, h1, h2, h3⟩ := h
  obtain ⟨s0, s1⟩ := set2 (u := .int .u64 (u : Int)) (v := .int .u64 (v : Int)) h0 h1
  refine ⟨?_, s1, ?_, ?_⟩
  · rw [World.cell?_setCell_other (h := (by simp : (⟨g, 1, none⟩ : Addr) ≠ ⟨g, 0, none⟩))]; exact s0
  · simpa using h2
  · simpa using h3
theorem Two.far {w : World} {g f x y u v : Nat} (h : Two w g x y) (hne : f ≠ g) : Two ((w.setCell ⟨f, 0, none⟩ (.int .u64 (u : Int))).setCell ⟨f, 1, none⟩ (.int .u64 (v : Int))) g x y := by
  obtain ⟨h0, h1, h2, h3⟩ := h
  refine ⟨?_, ?_, ?_, ?_⟩
  · rw [World.cell?_setCell_far _ _ _ _ hne, World.cell?_setCell_far _ _ _ _ hne]; exact h0
  · rw [World.cell?_setCell_far _ _ _ _ hne, World.cell?_setCell_far _ _ _ _ hne]; exact h1
  · simpa using h2
  · simpa using h3
theorem rlow_core (n : Int) (t : Nat) (L M : Nat → Nat) (w : World)
    (HO : Hid (∀ k : Nat, k < 128 → ∀ w, Calls Tryz.prog 169 #[.agg #[.int .u64 (L k : Int), .int .u64 (M k : Int)], .agg #[.int .u64 (bhz k : Int), .int .u64 (blz k : Int)]] w fun e w' => e = .returned (.agg #[.int .u64 (L (k + 1) : Int), .int .u64 (M (k + 1) : Int)]) ∧ Below w.heap.size w w'))
    (HB : Hid (∀ (i : Int) (w : World), Calls Tryz.prog 170 #[.int .i64 i] w fun e w' => e = .returned (.agg #[.int .u64 (bhz i : Int), .int .u64 (blz i : Int)]) ∧ Below w.heap.size w w'))
    (H0 : Hid (L 0 = 0 ∧ M 0 = 0)) (hlt : Hid (∀ k : Nat, k < t → (k : Int) < n ∧ (k : Int) < 128)) (hge : Hid (¬ (t : Int) < n ∨ ¬ (t : Int) < 128)) (hle : t ≤ 128) :
    Calls Tryz.prog 152 #[.int .i64 n] w fun e w' => e = .returned (.agg #[.int .u64 (L t : Int), .int .u64 (M t : Int)]) ∧ Below w.heap.size w w' := by
  go_enter Tryz.func152, Tryz.ntmps152
  go_wp2
  go_loopw [4] (fun i wr => ∃ k : Nat, k ≤ t ∧ i = .int .i64 k ∧ Hid (Two wr w.heap.size 0 0) ∧ Hid (Two wr (w.heap.size + 1) (L k) (M k)) ∧ Below w.heap.size w wr) (fun i _ => t - (intOf i).toNat)
  case atStart =>
    refine ⟨0, Nat.zero_le _, rfl, ?_, ?_, by go_grown⟩
    · exact ⟨by simp [go_sem], by simp [go_sem], by simp [go_sem], by simp [go_sem]⟩
    · show Two _ _ _ _
      rw [H0.out.1, H0.out.2]
      exact ⟨by simp [go_sem], by simp [go_sem], by simp [go_sem], by simp [go_sem]⟩
  case round =>
    obtain ⟨k, hk, rfl, T0, T1, bel⟩ := hrel
    by_cases hkt : k < t
    · obtain ⟨l1, l2⟩ := hlt.out k hkt
      obtain ⟨c0, c1, f0, f1⟩ := T1.out
      go_wp2_with fail
      have HM : Hid (∀ wx, Below wr.heap.size wr wx → ∀ wy, Below wx.heap.size wx wy → Two wy (w.heap.size + 1) (L k) (M k)) := fun wx h wy h' => (T1.out.later h).later h'
      go_region_with (first | (go_at_call 170; refine (HB.out _ _).mono ?_; rintro e w1 ⟨rfl, b1⟩; obtain ⟨d0, d1, g0, g1⟩ := HM.out _ (Below.refl _ wr).drew _ b1) | (go_at_call 169; refine (HO.out k (by omega) _).mono ?_; rintro e w2 ⟨rfl, b2⟩; obtain ⟨k0, k1, m0, m1⟩ := HM.out _ ((Below.refl _ wr).drew.trans (by assumption)) _ b2))
      all_goals
        have B12 : Below wr.heap.size wr w2 := (Below.refl _ wr).drew.trans (b1.trans (b2.mono b1.size))
        have T0' : Hid _ := h_ ((T0.out.later B12).far (f := w.heap.size + 1) (u := L (k + 1)) (v := M (k + 1)) (by omega))
        have T1' : Hid _ := h_ ((T1.out.later B12).set (L (k + 1)) (M (k + 1)))
        clear c0 c1 f0 f1 d0 d1 g0 g1 k0 k1 m0 m1 T0 T1 HM b1 b2
        go_wp2
        go_roundw
        case rel => exact ⟨k + 1, by omega, by go_num, T0', T1', ((bel.trans (B12.mono bel.size)).setCell (Nat.le_succ _) _).setCell (Nat.le_succ _) _⟩
        case measure => simp [intOf]; omega
    · have he : k = t := by omega
      subst he
      obtain ⟨c0, c1, f0, f1⟩ := T1.out
      obtain ⟨d0, d1, g0, g1⟩ := T0.out
      obtain ⟨s0, s1⟩ := set2 (u := .int .u64 (L k : Int)) (v := .int .u64 (M k : Int)) d0 d1
      clear HO HB H0 hlt T0 T1
      rcases hge.out with hg | hg
      · clear hge
        go_wp2
        exact bodyPost_ret (v := .agg #[.int .u64 (L k : Int), .int .u64 (M k : Int)]) (by simp [results, Tryz.results152, go_sem, s0, s1]) rfl ⟨rfl, (bel.setCell (Nat.le_refl _) _).setCell (Nat.le_refl _) _⟩
      · clear hge
        by_cases hn : (k : Int) < n
        · go_wp2
          exact bodyPost_ret (v := .agg #[.int .u64 (L k : Int), .int .u64 (M k : Int)]) (by simp [results, Tryz.results152, go_sem, s0, s1]) rfl ⟨rfl, (bel.setCell (Nat.le_refl _) _).setCell (Nat.le_refl _) _⟩
        · go_wp2
          exact bodyPost_ret (v := .agg #[.int .u64 (L k : Int), .int .u64 (M k : Int)]) (by simp [results, Tryz.results152, go_sem, s0, s1]) rfl ⟨rfl, (bel.setCell (Nat.le_refl _) _).setCell (Nat.le_refl _) _⟩
theorem rlow_any (n : Int) (w : World) :
    Calls Tryz.prog 152 #[.int .i64 n] w fun e w' => e = .returned (wd (lowb (cl n 128 - 64)) (lowb (min (cl n 128) 64))) ∧ Below w.heap.size w w' := by
  refine rlow_core n (cl n 128) (fun k => lowb (k - 64)) (fun k => lowb (min k 64)) w (fun k hk w => ?_) rbit_any ⟨by decide, by decide⟩ (fun k hk => by unfold cl at hk; omega) ?_ (cl_le n 128)
  · have := ror_any (lowb (k - 64)) (lowb (min k 64)) (bhz k) (blz k) w (lowb_lt _ (by omega)) (lowb_lt _ (by omega)) (bhz_lt _) (blz_lt _)
    rw [bhz_nat k hk, blz_nat k hk, low_hi, low_lo, ← bhz_nat k hk, ← blz_nat k hk] at this
    exact this
  · show _ ∨ _
    unfold cl; omega
def half8 (x : Int) : List Int := [x / 72057594037927936, x / 281474976710656 % 256, x / 1099511627776 % 256, x / 4294967296 % 256, x / 16777216 % 256, x / 65536 % 256, x / 256 % 256, x % 256]
def w16 (a b : Nat) : List Int := half8 a ++ half8 b
theorem half8_isB (x : Nat) (h : x < 18446744073709551616) : isB (half8 x) := by
  intro z hz
  simp only [half8, List.mem_cons, List.not_mem_nil, or_false] at hz
  rcases hz with rfl | rfl | rfl | rfl | rfl | rfl | rfl | rfl <;> omega
theorem w16_isB (a b : Nat) (ha : a < 18446744073709551616) (hb : b < 18446744073709551616) : isB (w16 a b) := (half8_isB a ha).app (half8_isB b hb)
theorem w16_length (a b : Nat) : (w16 a b).length = 16 := rfl
theorem wspell_any (a b : Nat) (w : World) (ha : a < 18446744073709551616) (hb : b < 18446744073709551616) :
    Calls Tryz.prog 129 #[wd a b] w fun e w' => e = .returned (.agg (u8s (w16 a b)).toArray) ∧ Below w.heap.size w w' := by
  unfold wd
  go_enter Tryz.func129, Tryz.ntmps129
  go_wp2
  go_rounds 9
  go_returns
  exact ⟨rfl, by go_grown⟩
theorem wspell_c (c0 c1 c2 c3 c4 c5 c6 c7 c8 c9 c10 c11 c12 c13 c14 c15 : Int) (a b : Nat) (h : w16 a b = [c0, c1, c2, c3, c4, c5, c6, c7, c8, c9, c10, c11, c12, c13, c14, c15]) (w : World) (ha : a < 18446744073709551616) (hb : b < 18446744073709551616) :
    Calls Tryz.prog 129 #[.agg #[.int .u64 (a : Int), .int .u64 (b : Int)]] w fun e w' => e = .returned (.agg #[.int .u8 c0, .int .u8 c1, .int .u8 c2, .int .u8 c3, .int .u8 c4, .int .u8 c5, .int .u8 c6, .int .u8 c7, .int .u8 c8, .int .u8 c9, .int .u8 c10, .int .u8 c11, .int .u8 c12, .int .u8 c13, .int .u8 c14, .int .u8 c15]) ∧ Below w.heap.size w w' := by
  have := wspell_any a b w ha hb
  rw [h] at this
  exact this
theorem w16_c (a b : Nat) : ∃ c0 c1 c2 c3 c4 c5 c6 c7 c8 c9 c10 c11 c12 c13 c14 c15, w16 a b = [c0, c1, c2, c3, c4, c5, c6, c7, c8, c9, c10, c11, c12, c13, c14, c15] := ⟨_, _, _, _, _, _, _, _, _, _, _, _, _, _, _, _, rfl⟩
theorem news16 (l : List Int) (w : World) (t : TypeId) (d : Nat) : ∀ (j : Nat) (u : Value), (u8s (l.drop d))[j]? = some u → (w.alloc (.cells (u8s l).toArray t)).drew.cell? ((⟨w.heap.size, d, none⟩ : Addr).add j) = some u := by
  intro j u h
  refine news_at _ _ _ _ _ _ ?_
  simp only [u8s, List.map_drop, List.getElem?_drop] at h
  simpa [u8s] using h
theorem al53 : Tryz.prog.arrayLen 141 = 16 := by kernel_rfl
theorem el53 : Tryz.prog.elem 141 = 5 := by kernel_rfl
theorem sz5 (w : World) : (sizeOf (Tryz.prog.elem 141)).run Tryz.prog w = .ok 1 w := by
  rw [el53]
  obtain ⟨i0, hi0, hz0, hz1, hz2⟩ := info_parts info5
  simp [sizeOf, typeInfo, hi0, hz1]
theorem sl53 (g d s : Nat) (h : s + d = 16) (hs : 1 ≤ s) (w : World) : (Instr.sliceAt 141 (.pointer (some ⟨g, 0, none⟩)) (some (.int .i64 (d : Int))) none none).run Tryz.prog w = .ok (.slice (some ⟨g, d, none⟩) s s) w := by
  rw [run_sliceAt_array_l w 141 ⟨g, 0, none⟩ (by kernel_rfl) .i64 (d : Int) (by omega) (by rw [al53]; omega), sz5, al53]
  simp only [Result.andThen_ok, slicedAt, Int.toNat_natCast, Nat.mul_one, Addr.add_lit]
  rw [if_neg (by omega), show 16 - d = s by omega, Nat.zero_add]
theorem wput_c (c0 c1 c2 c3 c4 c5 c6 c7 c8 c9 c10 c11 c12 c13 c14 c15 : Int) (ao : Option Addr) (cap : Nat) (l : List Int) (a b : Nat) (size : Int) (s d : Nat) (w : World) (hB : Bytes w (.slice ao l.length cap) l) (hl : l.length ≤ 100000000000000)
    (HS : Hid (∀ w, Calls Tryz.prog 129 #[.agg #[.int .u64 (a : Int), .int .u64 (b : Int)]] w fun e w' => e = .returned (.agg #[.int .u8 c0, .int .u8 c1, .int .u8 c2, .int .u8 c3, .int .u8 c4, .int .u8 c5, .int .u8 c6, .int .u8 c7, .int .u8 c8, .int .u8 c9, .int .u8 c10, .int .u8 c11, .int .u8 c12, .int .u8 c13, .int .u8 c14, .int .u8 c15]) ∧ Below w.heap.size w w'))
    (HH : Hid (∀ w, Calls Tryz.prog 81 #[.int .i64 size, .int .i64 16] w fun e w' => e = .returned (.int .i64 (s : Int)) ∧ w = w')) (hs : 1 ≤ s) (hd : s + d = 16) :
    Calls Tryz.prog 107 #[.slice ao l.length cap, .agg #[.int .u64 (a : Int), .int .u64 (b : Int)], .int .i64 size] w fun e w' => ∃ r, e = .returned r ∧ w'.ownsRow w.heap.size 5 1 r (l.length + s) (u8s l ++ u8s ([c0, c1, c2, c3, c4, c5, c6, c7, c8, c9, c10, c11, c12, c13, c14, c15].drop d)) ∧ Below w.heap.size w w' := by
  obtain ⟨_, hc1, hc2, hc3⟩ := hB.bounds
  have HB : Hid (Bytes w (.slice ao l.length cap) l) := hB
  have HC3 : Hid _ := hc3
  clear hB hc3
  obtain ⟨i0, hi0, hz0, hz1, hz2⟩ := info_parts info5
  have HI : Hid (Tryz.prog.info? 5 = some i0 ∧ i0.zero = some (.int .u8 0) ∧ i0.size = 1 ∧ i0.bytes = 1) := ⟨hi0, hz0, hz1, hz2⟩
  clear hi0 hz0 hz1 hz2
  have h0 : ((s : Int) == 0) = false := by simp; omega
  have HD : Hid (s + d = 16) := hd
  have e2 : (16 : Int) - (s : Int) = (d : Int) := by omega
  have hd16 : d ≤ 15 := by omega
  have hs16 : s ≤ 16 := by omega
  clear hd
  go_enter Tryz.func107, Tryz.ntmps107
  go_wp2_with (first | (go_at_call 81; refine (HH.out _).mono ?_; rintro e w' ⟨rfl, rfl⟩) | (go_at_call 129; refine (HS.out _).mono ?_; rintro e w1 ⟨rfl, hbel⟩))
  have e3 : IntKind.i64.wrap (d : Int) = (d : Int) := by rw [IntKind.wrap_i64]; omega
  have f1 : (0 : Int) ≤ (l.length : Int) := by omega
  have f2 : (l.length : Int) ≤ (cap : Int) := by omega
  have hsl := fun wx => sl53 w1.heap.size d s HD.out hs wx
  have hb1 : Below w.heap.size w w1 := (by go_grown : Below w.heap.size w (w.alloc (.cells #[.int .u64 (a : Int), .int .u64 (b : Int)] 31))).trans (hbel.mono (by simp))
  have hz1 := hb1.size
  have hl16 : (u8s ([c0, c1, c2, c3, c4, c5, c6, c7, c8, c9, c10, c11, c12, c13, c14, c15].drop d)).length = s := by simp only [u8s_length, List.length_drop, List.length_cons, List.length_nil]; have := HD.out; omega
  have HLL := h_ hl16
  clear hl16
  go_region_law (refine step_append_grows rfl (.tmp 21) (.tmp 24) 25 rfl 5 i0 (.int .u8 0) 1 1 Tryz.underlying25 HI.out.1 HI.out.2.1 HI.out.2.2.1 HI.out.2.2.2 rfl (by decide) ao l.length l.length (u8s l) (by simp [Act.eval, Act.put]) (fun e => ⟨HC3.out e, HC3.out e⟩) (by simp [u8s]) (HB.out.olds (hb1.trans (by go_grown))) ⟨w1.heap.size, d, none⟩ s s (u8s ([c0, c1, c2, c3, c4, c5, c6, c7, c8, c9, c10, c11, c12, c13, c14, c15].drop d)) (by simp [Act.eval, Act.put]) (by rw [Nat.mul_one]; exact HLL.out) (news16 [c0, c1, c2, c3, c4, c5, c6, c7, c8, c9, c10, c11, c12, c13, c14, c15] w1 141 d) (u8s_one _) (by omega) (by unfold maxLen; omega) (by omega) ?_; intro v' w2 hown hg)
  clear f1 f2 e3 HI HB HC3 hsl
  go_wp2
  go_ret
  exact ⟨v', rfl, ownsRow_base hown (by simp; omega), (hb1.trans (by go_grown)).trans (below_grown hg _ (by simp; omega) (fun _ e => by cases e))⟩
theorem wput_0 (v : Value) (l : List Int) (a b : Nat) (size : Int) (w : World) (hB : Bytes w v l) (hl : l.length ≤ 100000000000000) (hs : cl size 16 = 0) :
    Calls Tryz.prog 107 #[v, .agg #[.int .u64 (a : Int), .int .u64 (b : Int)], .int .i64 size] w fun e w' => ∃ r, e = .returned r ∧ w'.ownsRow w.heap.size 5 1 r l.length (u8s l) ∧ Below w.heap.size w w' := by
  have HB : Hid (Bytes w v l) := hB
  have HH : Hid (∀ w, Calls Tryz.prog 81 #[.int .i64 size, .int .i64 16] w fun e w' => e = .returned (.int .i64 0) ∧ w = w') := fun w => by
    have := hold_16 size w
    rwa [hs] at this
  clear hB hs
  go_enter Tryz.func107, Tryz.ntmps107
  go_wp2_with (first | (go_at_call 81; refine (HH.out _).mono ?_; rintro e w' ⟨rfl, rfl⟩) | (go_at_call 108; refine (bclone_any v l _ (HB.out.later (by go_grown)) hl).mono ?_; rintro e w' ⟨r, rfl, hown, hbel⟩))
  go_ret
  exact ⟨r, rfl, ownsRow_base hown (by simp), (by go_grown : Below w.heap.size w (w.alloc (.cells #[.int .u64 (a : Int), .int .u64 (b : Int)] 31))).trans (hbel.mono (by simp))⟩
def wtail (a b : Nat) (size : Int) : List Int := (w16 a b).drop (16 - cl size 16)
theorem wtail_length (a b : Nat) (size : Int) : (wtail a b size).length = cl size 16 := by
  have := cl_le size 16
  unfold wtail; rw [List.length_drop, w16_length]; omega
theorem wput_any (v : Value) (l : List Int) (a b : Nat) (size : Int) (w : World) (hB : Bytes w v l) (hl : l.length ≤ 100000000000000) (ha : a < 18446744073709551616) (hb : b < 18446744073709551616) :
    Calls Tryz.prog 107 #[v, wd a b, .int .i64 size] w fun e w' => ∃ r, e = .returned r ∧ Bytes w' r (l ++ wtail a b size) ∧ Below w.heap.size w w' := by
  have hcl := cl_le size 16
  have hlen := wtail_length a b size
  have hBt : isB (wtail a b size) := fun z hz => w16_isB a b ha hb z (List.mem_of_mem_drop hz)
  have hall := (show isB l by obtain ⟨_, _, _, _, _, h, _⟩ := hB; exact h).app hBt
  by_cases hs : cl size 16 = 0
  · refine (wput_0 v l a b size w hB hl hs).mono fun e w' ⟨r, he, ho, hb⟩ => ⟨r, he, ?_, hb⟩
    have e : wtail a b size = [] := List.eq_nil_of_length_eq_zero (by omega)
    rw [e, List.append_nil] at hall ⊢
    exact Bytes.ofOwn ho hall
  · obtain ⟨c0, c1, c2, c3, c4, c5, c6, c7, c8, c9, c10, c11, c12, c13, c14, c15, hc⟩ := w16_c a b
    have hB0 := hB
    obtain ⟨ao, cap, rfl, _⟩ := hB
    refine (wput_c c0 c1 c2 c3 c4 c5 c6 c7 c8 c9 c10 c11 c12 c13 c14 c15 ao cap l a b size (cl size 16) (16 - cl size 16) w hB0 hl (fun w => wspell_c _ _ _ _ _ _ _ _ _ _ _ _ _ _ _ _ a b hc w ha hb) (fun w => hold_16 size w) (by omega) (by omega)).mono fun e w' ⟨r, he, ho, hb⟩ => ⟨r, he, ?_, hb⟩
    rw [← hc, ← u8s_append] at ho
    refine Bytes.ofOwn (l := l ++ wtail a b size) (base := w.heap.size) (e := 5) ?_ hall
    rw [List.length_append, hlen]
    exact ho
end
end Go.Proofs.YthhijfphfcmniaaGreat
