import Derived.Test.YtmpfpolanndakabProg
import Derived.Test.YtmpfpolanndakabK
import Derived.Test.YtmpfpolanndakabG
import Derived.Test.YtmpfpolanndakabH
import Derived.Test.YtmpfpolanndakabX
import Derived.Below
import Derived.BigQuiet
import Derived.BigRegion
import Derived.Deep.QuietTactic
import Derived.Deep.RegionHeld3
import Derived.Deep.RegionLaw
import Derived.Deep.RegionLawGrows
import Derived.Handy
import Derived.Laws.AppendOwn
import Derived.Laws.AppendOwnNone
import Derived.Laws.BitsAllLaws
import Derived.Laws.BitsLemmas
import Derived.Laws.CopyOwn
import Derived.Laws.OwnMore
import Derived.Laws.Rows
import Derived.Laws.StructEq
import Derived.OpenShut
import Derived.ProofKit
import Derived.RegionTactic
import Derived.WalkKit
import Derived.WalkLawsBesides
import Derived.WalkSmall
import Derived.WalkSpells
namespace Go.Proofs.Ytmpfpolanndakab
open Go Go.RowKit
set_option linter.unusedVariables false
set_option linter.unusedSimpArgs false

theorem wspell_c (c0 c1 c2 c3 c4 c5 c6 c7 c8 c9 c10 c11 c12 c13 c14 c15 : Int) (a b : Nat) (h : w16 a b = [c0, c1, c2, c3, c4, c5, c6, c7, c8, c9, c10, c11, c12, c13, c14, c15]) (w : World) (ha : a < 18446744073709551616) (hb : b < 18446744073709551616) :
    Calls Try.prog 22 #[.agg #[.int .u64 (a : Int), .int .u64 (b : Int)]] w fun e w' => e = .returned (.agg #[.int .u8 c0, .int .u8 c1, .int .u8 c2, .int .u8 c3, .int .u8 c4, .int .u8 c5, .int .u8 c6, .int .u8 c7, .int .u8 c8, .int .u8 c9, .int .u8 c10, .int .u8 c11, .int .u8 c12, .int .u8 c13, .int .u8 c14, .int .u8 c15]) ∧ Below w.heap.size w w' := by
  have := wspell_any a b w ha hb
  rw [h] at this
  exact this

theorem w16_c (a b : Nat) : ∃ c0 c1 c2 c3 c4 c5 c6 c7 c8 c9 c10 c11 c12 c13 c14 c15, w16 a b = [c0, c1, c2, c3, c4, c5, c6, c7, c8, c9, c10, c11, c12, c13, c14, c15] := ⟨_, _, _, _, _, _, _, _, _, _, _, _, _, _, _, _, rfl⟩

theorem news16 (l : List Int) (w : World) (t : TypeId) (d : Nat) : ∀ (j : Nat) (u : Value), (u8s (l.drop d))[j]? = some u → (w.alloc (.cells (u8s l).toArray t)).drew.cell? ((⟨w.heap.size, d, none⟩ : Addr).add j) = some u := by
  intro j u h
  refine news_at _ _ _ _ _ _ ?_
  simp only [u8s, List.map_drop, List.getElem?_drop] at h
  simpa [u8s] using h

theorem al53 : Try.prog.arrayLen 49 = 16 := by kernel_rfl

theorem el53 : Try.prog.elem 49 = 5 := by kernel_rfl

theorem sz5 (w : World) : (sizeOf (Try.prog.elem 49)).run Try.prog w = .ok 1 w := by
  rw [el53]
  obtain ⟨i0, hi0, hz0, hz1, hz2⟩ := info_parts info5
  simp [sizeOf, typeInfo, hi0, hz1]

theorem sl53 (g d s : Nat) (h : s + d = 16) (hs : 1 ≤ s) (w : World) : (Instr.sliceAt 49 (.pointer (some ⟨g, 0, none⟩)) (some (.int .i64 (d : Int))) none none).run Try.prog w = .ok (.slice (some ⟨g, d, none⟩) s s) w := by
  rw [run_sliceAt_array_l w 49 ⟨g, 0, none⟩ (by kernel_rfl) .i64 (d : Int) (by omega) (by rw [al53]; omega), sz5, al53]
  simp only [Result.andThen_ok, slicedAt, Int.toNat_natCast, Nat.mul_one, Addr.add_lit]
  rw [if_neg (by omega), show 16 - d = s by omega, Nat.zero_add]

set_option maxRecDepth 100000 in
set_option maxHeartbeats 2000000 in
theorem wput_c (c0 c1 c2 c3 c4 c5 c6 c7 c8 c9 c10 c11 c12 c13 c14 c15 : Int) (ao : Option Addr) (cap : Nat) (l : List Int) (a b : Nat) (size : Int) (s d : Nat) (w : World) (hB : Bytes w (.slice ao l.length cap) l) (hl : l.length ≤ 100000000000000)
    (HS : Hid (∀ w, Calls Try.prog 22 #[.agg #[.int .u64 (a : Int), .int .u64 (b : Int)]] w fun e w' => e = .returned (.agg #[.int .u8 c0, .int .u8 c1, .int .u8 c2, .int .u8 c3, .int .u8 c4, .int .u8 c5, .int .u8 c6, .int .u8 c7, .int .u8 c8, .int .u8 c9, .int .u8 c10, .int .u8 c11, .int .u8 c12, .int .u8 c13, .int .u8 c14, .int .u8 c15]) ∧ Below w.heap.size w w'))
    (HH : Hid (∀ w, Calls Try.prog 18 #[.int .i64 size, .int .i64 16] w fun e w' => e = .returned (.int .i64 (s : Int)) ∧ w = w')) (hs : 1 ≤ s) (hd : s + d = 16) :
    Calls Try.prog 16 #[.slice ao l.length cap, .agg #[.int .u64 (a : Int), .int .u64 (b : Int)], .int .i64 size] w fun e w' => ∃ r, e = .returned r ∧ w'.ownsRow w.heap.size 5 1 r (l.length + s) (u8s l ++ u8s ([c0, c1, c2, c3, c4, c5, c6, c7, c8, c9, c10, c11, c12, c13, c14, c15].drop d)) ∧ Below w.heap.size w w' := by
  obtain ⟨_, hc1, hc2, hc3⟩ := hB.bounds
  have HB : Hid (Bytes w (.slice ao l.length cap) l) := hB
  have HC3 : Hid _ := hc3
  clear hB hc3
  obtain ⟨i0, hi0, hz0, hz1, hz2⟩ := info_parts info5
  have HI : Hid (Try.prog.info? 5 = some i0 ∧ i0.zero = some (.int .u8 0) ∧ i0.size = 1 ∧ i0.bytes = 1) := ⟨hi0, hz0, hz1, hz2⟩
  clear hi0 hz0 hz1 hz2
  have h0 : ((s : Int) == 0) = false := by simp; omega
  have HD : Hid (s + d = 16) := hd
  have e2 : (16 : Int) - (s : Int) = (d : Int) := by omega
  have hd16 : d ≤ 15 := by omega
  have hs16 : s ≤ 16 := by omega
  clear hd
  go_enter Try.func16, Try.ntmps16
  go_wp2_with (first | (go_at_call 18; refine (HH.out _).mono ?_; rintro e w' ⟨rfl, rfl⟩) | (go_at_call 22; refine (HS.out _).mono ?_; rintro e w1 ⟨rfl, hbel⟩))
  have e3 : IntKind.i64.wrap (d : Int) = (d : Int) := by rw [IntKind.wrap_i64]; omega
  have f1 : (0 : Int) ≤ (l.length : Int) := by omega
  have f2 : (l.length : Int) ≤ (cap : Int) := by omega
  have hsl := fun wx => sl53 w1.heap.size d s HD.out hs wx
  have hb1 : Below w.heap.size w w1 := (by go_grown : Below w.heap.size w (w.alloc (.cells #[.int .u64 (a : Int), .int .u64 (b : Int)] 24))).trans (hbel.mono (by simp))
  have hz1 := hb1.size
  have hl16 : (u8s ([c0, c1, c2, c3, c4, c5, c6, c7, c8, c9, c10, c11, c12, c13, c14, c15].drop d)).length = s := by simp only [u8s_length, List.length_drop, List.length_cons, List.length_nil]; have := HD.out; omega
  have HLL := hide_ hl16
  clear hl16
  go_region_law (refine step_append_grows rfl (.tmp 21) (.tmp 24) 36 rfl 5 i0 (.int .u8 0) 1 1 Try.underlying36 HI.out.1 HI.out.2.1 HI.out.2.2.1 HI.out.2.2.2 rfl (by decide) ao l.length l.length (u8s l) (by simp [Act.eval, Act.put]) (fun e => ⟨HC3.out e, HC3.out e⟩) (by simp [u8s]) (HB.out.olds (hb1.trans (by go_grown))) ⟨w1.heap.size, d, none⟩ s s (u8s ([c0, c1, c2, c3, c4, c5, c6, c7, c8, c9, c10, c11, c12, c13, c14, c15].drop d)) (by simp [Act.eval, Act.put]) (by rw [Nat.mul_one]; exact HLL.out) (news16 [c0, c1, c2, c3, c4, c5, c6, c7, c8, c9, c10, c11, c12, c13, c14, c15] w1 49 d) (u8s_one _) (by omega) (by unfold maxLen; omega) (by omega) ?_; intro v' w2 hown hg)
  clear f1 f2 e3 HI HB HC3 hsl
  go_wp2
  go_ret
  exact ⟨v', rfl, ownsRow_base hown (by simp; omega), (hb1.trans (by go_grown)).trans (below_grown hg _ (by simp; omega) (fun _ e => by cases e))⟩

end Go.Proofs.Ytmpfpolanndakab
