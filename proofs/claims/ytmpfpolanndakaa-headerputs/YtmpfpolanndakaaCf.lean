import Derived.Test.YtmpfpolanndakaaProg
import Derived.Test.YtmpfpolanndakaaK
import Derived.Test.YtmpfpolanndakaaG
import Derived.Test.YtmpfpolanndakaaH
import Derived.Test.YtmpfpolanndakaaM
import Derived.Test.YtmpfpolanndakaaU
import Derived.Test.YtmpfpolanndakaaCa
import Derived.Test.YtmpfpolanndakaaCd
import Derived.Below
import Derived.BigQuiet
import Derived.BigRegion
import Derived.Deep.QuietTactic
import Derived.Deep.RegionHeld3
import Derived.Deep.RegionLaw
import Derived.Deep.RegionLawGrows
import Derived.Handy
import Derived.Laws.AppendOwn
import Derived.Laws.AppendOwnNone
import Derived.Laws.BitsAllLaws
import Derived.Laws.BitsLemmas
import Derived.Laws.CopyOwn
import Derived.Laws.OwnMore
import Derived.Laws.Rows
import Derived.Laws.StructEq
import Derived.OpenShut
import Derived.ProofKit
import Derived.RegionTactic
import Derived.WalkKit
import Derived.WalkLawsBesides
import Derived.WalkSmall
import Derived.WalkSpells
namespace Go.Proofs.Ytmpfpolanndakaa
open Go Go.RowKit
set_option linter.unusedVariables false
set_option linter.unusedSimpArgs false

/-- sixteen zeros -/
def zero16 : List Value := [.int .u8 0, .int .u8 0, .int .u8 0, .int .u8 0, .int .u8 0, .int .u8 0, .int .u8 0, .int .u8 0, .int .u8 0, .int .u8 0, .int .u8 0, .int .u8 0, .int .u8 0, .int .u8 0, .int .u8 0, .int .u8 0]

/-- the bytes in their places -/
def z16 (l : List Int) (s : Nat) : List Int := List.replicate (16 - s) 0 ++ l.take s

theorem z16_length (l : List Int) (s : Nat) (hs : s ≤ 16) (hl : s ≤ l.length) : (z16 l s).length = 16 := by
  unfold z16; simp; omega

theorem z16_isB (l : List Int) (s : Nat) (h : isB l) : isB (z16 l s) := by
  unfold z16
  refine isB.app (fun z hz => ?_) (isB_take h s)
  rw [List.mem_replicate] at hz
  omega

theorem splice16 (l : List Int) (s : Nat) (hs : s ≤ 16) (hl : s ≤ l.length) : splice zero16 (16 - s) (u8s (l.take s)) = u8s (z16 l s) := by
  have e : zero16 = u8s (List.replicate 16 0) := rfl
  rw [e]
  unfold splice z16
  rw [u8s_length, u8s_append]
  simp only [u8s, List.map_replicate, List.take_replicate, List.drop_replicate, List.length_take]
  rw [show min (16 - s) 16 = 16 - s by omega, show 16 - (16 - s + min s l.length) = 0 by omega]
  simp

theorem got_hi (l : List Int) (s : Nat) (hB : isB l) (hs : s ≤ 16) (hl : s ≤ l.length) : bev ((z16 l s).take 8) = bev (l.take s) / 18446744073709551616 ∧ bev ((z16 l s).drop 8) = bev (l.take s) % 18446744073709551616 := by
  have h1 := bev_app ((z16 l s).take 8) ((z16 l s).drop 8)
  rw [List.take_append_drop, List.length_drop, z16_length l s hs hl] at h1
  have h2 : bev (z16 l s) = bev (l.take s) := bev_zeros _ _
  have h3 := bev_lt ((z16 l s).drop 8) (fun z hz => z16_isB l s hB z (List.mem_of_mem_drop hz))
  rw [List.length_drop, z16_length l s hs hl] at h3
  rw [h2] at h1
  have h4 : (256 : Nat) ^ (16 - 8) = 18446744073709551616 := by decide
  rw [h4] at h1 h3
  generalize bev ((z16 l s).take 8) = x at *
  generalize bev ((z16 l s).drop 8) = y at *
  generalize bev (l.take s) = v at *
  omega

theorem wread_any (Z : List Int) (hZ : isB Z) (h : Z.length = 16) (w : World) :
    Calls Try.prog 64 #[.agg (u8s Z).toArray] w fun e w' => e = .returned (.agg #[.int .u64 (bev (Z.take 8) : Int), .int .u64 (bev (Z.drop 8) : Int)]) ∧ Below w.heap.size w w' := by
  have := wread_core (Z.take 8) (Z.drop 8) (isB_take hZ 8) (fun z hz => hZ z (List.mem_of_mem_drop hz)) (by simp; omega) (by simp; omega) w
  rwa [List.take_append_drop] at this

theorem al40 : Try.prog.arrayLen 76 = 16 := by kernel_rfl

theorem el40 : Try.prog.elem 76 = 5 := by kernel_rfl

theorem sz40 (w : World) : (sizeOf (Try.prog.elem 76)).run Try.prog w = .ok 1 w := by
  rw [el40]
  obtain ⟨i0, hi0, hz0, hz1, hz2⟩ := info_parts info5
  simp [sizeOf, typeInfo, hi0, hz1]

theorem sl40 (g d s : Nat) (h : s + d = 16) (w : World) : (Instr.sliceAt 76 (.pointer (some ⟨g, 0, none⟩)) (some (.int .i64 (d : Int))) none none).run Try.prog w = .ok (.slice (some ⟨g, if s = 0 then 0 else d, none⟩) s s) w := by
  rw [run_sliceAt_array_l w 76 ⟨g, 0, none⟩ (by kernel_rfl) .i64 (d : Int) (by omega) (by rw [al40]; omega), sz40, al40]
  simp only [Result.andThen_ok, slicedAt, Int.toNat_natCast, Nat.mul_one, Addr.add_lit]
  by_cases hs : s = 0
  · rw [if_pos (by omega), if_pos hs, show 16 - d = s by omega]
  · rw [if_neg (by omega), if_neg hs, show 16 - d = s by omega, Nat.zero_add]

theorem info40 : (Try.prog.info? 76).map (·.size) = some 16 := by kernel_rfl

theorem heap_new2 (w : World) (o1 o2 : Obj) : ((w.alloc o1).alloc o2).drew.heap[w.heap.size + 1]? = some o2 := by
  show ((w.heap.push o1).push o2)[w.heap.size + 1]? = some o2
  rw [show w.heap.size + 1 = (w.heap.push o1).size by simp]
  exact Array.getElem?_push_size

theorem take_cells {l : List Int} {s j : Nat} {u : Value} (h : (u8s (l.take s))[j]? = some u) : (u8s l)[j]? = some u := by
  unfold u8s at *
  rw [List.map_take, List.getElem?_take] at h
  split at h
  · exact h
  · cases h

theorem copy_pos {w w1 : World} {ao : Option Addr} {cap s g q d : Nat} {l : List Int} (hB : Bytes w (.slice ao l.length cap) l) (hb : Below w.heap.size w w1) (hl : s ≤ l.length) (hq : s ≠ 0 → q = d) :
    0 < (u8s (l.take s)).length → (some (⟨g, q, none⟩ : Addr)) = some ⟨g, d, none⟩ ∧ ∃ ad, ao = some ad ∧ ∀ j v, (u8s (l.take s))[j]? = some v → w1.cell? (ad.add j) = some v := by
  intro h
  rw [u8s_length, List.length_take] at h
  have hs : s ≠ 0 := by omega
  rw [hq hs]
  refine ⟨rfl, ?_⟩
  obtain ⟨_, _, _, h3⟩ := hB.bounds
  cases ao with
  | none => have := h3 rfl; omega
  | some ad => exact ⟨ad, rfl, fun j v hv => hB.olds hb ad rfl j v (take_cells hv)⟩

set_option maxRecDepth 100000 in
set_option maxHeartbeats 4000000 in
theorem wget_yes (ao : Option Addr) (cap : Nat) (l : List Int) (s d : Nat) (w : World) (hB : Bytes w (.slice ao l.length cap) l) (hl : s ≤ l.length) (hd : s + d = 16)
    (hdp : Hid (∀ wx, (Instr.sliceAt 76 (.pointer (some ⟨w.heap.size + 1, 0, none⟩)) (some (.int .i64 (d : Int))) none none).run Try.prog wx = .ok (.slice (some ⟨w.heap.size + 1, if s = 0 then 0 else d, none⟩) s s) wx)) :
    Calls Try.prog 55 #[.slice ao l.length cap, .int .i64 (s : Int)] w fun e w' => e = .returned (.tuple #[.agg #[.int .u64 (bev (l.take s) / 18446744073709551616 : Nat), .int .u64 (bev (l.take s) % 18446744073709551616 : Nat)], .bool true]) ∧ Below w.heap.size w w' := by
  obtain ⟨hx, hc1, hc2, hc3⟩ := hB.bounds
  have HB := hide_ hB
  have HC3 := hide_ hc3
  clear hB hc3 hx
  have HD := hide_ hd
  have hs16 : s ≤ 16 := by omega
  have hd16 : d ≤ 16 := by omega
  have e2 : (16 : Int) - (s : Int) = (d : Int) := by omega
  clear hd
  have g0 : ¬ (s : Int) < 0 := by omega
  have g1 : ¬ (16 : Int) < (s : Int) := by omega
  have g2 : ¬ (l.length : Int) < (s : Int) := by omega
  have GOT := hide_ (got_hi l s HB.out.isB_ hs16 hl)
  have RD0 := (wread_any (z16 l s) (z16_isB l s HB.out.isB_) (z16_length l s hs16 hl))
  rw [(got_hi l s HB.out.isB_ hs16 hl).1, (got_hi l s HB.out.isB_ hs16 hl).2] at RD0
  generalize bev (l.take s) / 18446744073709551616 = X at *
  generalize bev (l.take s) % 18446744073709551616 = Y at *
  have RD := hide_ RD0
  clear RD0 GOT
  go_enter Try.func55, Try.ntmps55
  go_wp2_with fail
  have e3 : IntKind.i64.wrap (d : Int) = (d : Int) := by rw [IntKind.wrap_i64]; omega
  have hsl := hdp.out
  have f1 : (0 : Int) ≤ (s : Int) := by omega
  have f2 : (s : Int) ≤ (cap : Int) := by omega
  obtain ⟨q, hq⟩ : ∃ q, q = if s = 0 then 0 else d := ⟨_, rfl⟩
  rw [← hq] at hsl
  have HQ : Hid (s ≠ 0 → q = d) := fun h => by rw [hq, if_neg h]
  clear hq hdp
  have HLEN : Hid ((u8s (l.take s)).length = s) := by show _ = _; rw [u8s_length, List.length_take]; omega
  go_region_law (refine step_copy_splice rfl (.tmp 22) (.tmp 25) 51 51 rfl 5 Try.underlying51 (by kernel_rfl) (some ⟨w.heap.size + 1, q, none⟩) ao s s s cap (by simp [Act.eval, Act.put]) (by simp [Act.eval, Act.put]) (w.heap.size + 1) d zero16 76 (heap_new2 w _ _) (u8s (l.take s)) (by rw [HLEN.out]; simp) (copy_pos HB.out (by go_grown) hl HQ.out) (by rw [HLEN.out]; show d + s ≤ 16; omega) (u8s_one _) (w.heap.size + 1) (w.alloc (.cells #[.int .u64 0, .int .u64 0] 39)) (by go_grown) (Nat.le_refl _) ?_; intro w2 H2 hB2)
  have H3 : Hid (w2.heap[w.heap.size + 1]? = some (.cells (u8s (z16 l s)).toArray 76 (0, 0))) := by
    have := H2.out
    rw [show d = 16 - s by have := HD.out; omega, splice16 l s hs16 hl] at this
    exact this
  have S3 : Hid ((Try.prog.info? 76).map (·.size) = some (u8s (z16 l s)).toArray.size) := by
    show _ = _
    rw [info40, List.size_toArray, u8s_length, z16_length l s hs16 hl]
  have sz2 := hB2.size
  simp only [World.size_alloc] at sz2
  clear hsl e3 f1 f2 H2 HQ HLEN HB HC3
  have t2 := kept2 w w2 0 0 39 (by simpa using hB2)
  obtain ⟨bel2, c0, c1, k0, k1⟩ := t2
  go_wp2_with (refine wpList_load_row rfl 76 (.tmp 6) rfl (w.heap.size + 1) (by simp [Act.eval, Act.put]) 76 (u8s (z16 l s)).toArray (0, 0) _ H3.out Try.underlying76 rfl S3.out ?_)
  refine (RD.out w2).mono ?_
  rintro e w3 ⟨rfl, b3⟩
  have c0' := cell_later b3 c0
  have c1' := cell_later b3 c1
  have k0' : w3.frozen? ⟨w.heap.size, 0, none⟩ = false := by rw [b3.frozen (by show w.heap.size < _; omega)]; exact k0
  have k1' : w3.frozen? ⟨w.heap.size, 1, none⟩ = false := by rw [b3.frozen (by show w.heap.size < _; omega)]; exact k1
  obtain ⟨s0, s1⟩ := set2 (u := .int .u64 (X : Int)) (v := .int .u64 (Y : Int)) c0' c1'
  have bel3 := bel2.trans (b3.mono bel2.size)
  clear c0 c1 k0 k1
  go_wp2
  exact bodyPost_ret (v := .tuple #[.agg #[.int .u64 (X : Int), .int .u64 (Y : Int)], .bool true]) (by simp [results, Try.results55, go_sem, s0, s1]) rfl ⟨rfl, (bel3.setCell (Nat.le_refl _) _).setCell (Nat.le_refl _) _⟩

end Go.Proofs.Ytmpfpolanndakaa
