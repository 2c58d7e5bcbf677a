import Derived.Test.YtmpfpolanndakaaProg
import Derived.Test.YtmpfpolanndakaaK
import Derived.Test.YtmpfpolanndakaaG
import Derived.Test.YtmpfpolanndakaaH
import Derived.Test.YtmpfpolanndakaaL
import Derived.Test.YtmpfpolanndakaaM
import Derived.Test.YtmpfpolanndakaaR
import Derived.Test.YtmpfpolanndakaaS
import Derived.Test.YtmpfpolanndakaaT
import Derived.Test.YtmpfpolanndakaaW
import Derived.Test.YtmpfpolanndakaaX
import Derived.Test.YtmpfpolanndakaaZ
import Derived.Test.YtmpfpolanndakaaCb
import Derived.Below
import Derived.BigQuiet
import Derived.BigRegion
import Derived.Deep.QuietTactic
import Derived.Deep.RegionHeld3
import Derived.Deep.RegionLaw
import Derived.Deep.RegionLawGrows
import Derived.Handy
import Derived.Laws.AppendOwn
import Derived.Laws.AppendOwnNone
import Derived.Laws.BitsAllLaws
import Derived.Laws.BitsLemmas
import Derived.Laws.CopyOwn
import Derived.Laws.OwnMore
import Derived.Laws.Rows
import Derived.Laws.StructEq
import Derived.OpenShut
import Derived.ProofKit
import Derived.RegionTactic
import Derived.WalkKit
import Derived.WalkLawsBesides
import Derived.WalkSmall
import Derived.WalkSpells
namespace Go.Proofs.Ytmpfpolanndakaa
open Go Go.RowKit
set_option linter.unusedVariables false
set_option linter.unusedSimpArgs false

theorem ownsRow_later {w w' : World} {base n : Nat} {e : TypeId} {v : Value} {xs : List Value} (h : w.ownsRow base e 1 v n xs) (hb : Below w.heap.size w w') : w'.ownsRow base e 1 v n xs := by
  refine ⟨h.1, ?_⟩
  rcases h.2 with h | ⟨g, cap, cur, h1, h2, h3, r⟩
  · exact .inl h
  · refine .inr ⟨g, cap, cur, h1, h2, ?_, r⟩
    rw [hb.block g (Array.getElem?_eq_some_iff.1 h3).1]
    exact h3

theorem tail_snoc (T : List Int) (s m : Nat) (z : Int) (hT : T.length = s) (hm : m + 1 ≤ s) (hz : T[s - (m + 1)]? = some z) : T.take (s - m) = T.take (s - (m + 1)) ++ [z] := by
  rw [show s - m = (s - (m + 1)) + 1 by omega, List.take_add_one, hz]
  rfl

set_option maxRecDepth 100000 in
set_option maxHeartbeats 2000000 in
theorem rwput_core (v : Value) (l T : List Int) (a b : Nat) (size : Int) (s : Nat) (w : World) (hB : Bytes w v l) (hl : l.length ≤ 100000000000000) (hs : s ≤ 16) (hT : T.length = s)
    (hsz : Hid (min (max size 0) 16 = (s : Int)))
    (HP : Hid (∀ m : Nat, m < s → ∀ w, Calls Try.prog 67 #[.agg #[.int .u64 (a : Int), .int .u64 (b : Int)], .int .i64 (m : Int)] w fun e w' => ∃ z, T[s - (m + 1)]? = some z ∧ e = .returned (.int .u8 z) ∧ Below w.heap.size w w')) :
    Calls Try.prog 58 #[v, .agg #[.int .u64 (a : Int), .int .u64 (b : Int)], .int .i64 size] w fun e w' => ∃ r, e = .returned r ∧ w'.ownsRow w.heap.size 5 1 r (l.length + s) (u8s (l ++ T)) ∧ Below w.heap.size w w' := by
  have HB := hide_ hB
  clear hB
  obtain ⟨i0, hi0, hz0, hz1, hz2⟩ := info_parts info5
  have HI : Hid (Try.prog.info? 5 = some i0 ∧ i0.zero = some (.int .u8 0) ∧ i0.size = 1 ∧ i0.bytes = 1) := ⟨hi0, hz0, hz1, hz2⟩
  clear hi0 hz0 hz1 hz2
  have HT := hide_ hT
  clear hT
  have hcase : (size < 0 ∧ s = 0) ∨ size = (s : Int) ∨ (16 < size ∧ s = 16) := by have := hsz.out; omega
  clear hsz
  have hcase' : Hid (∃ i : Int, i = (s : Int) - 1) := ⟨_, rfl⟩
  rcases hcase with ⟨h1, h2⟩ | h1 | ⟨h1, h2⟩
  all_goals
    first | (have H2 := hide_ h2; clear h2) | (have H2 : Hid (s = s) := rfl; subst h1)
    go_enter Try.func58, Try.ntmps58
    go_wp2_with (at_builtin; refine wpList_append_ownB rfl (.tmp 9) (.tmp 10) 51 rfl (w.heap.size + 1) 5 i0 Try.underlying51 HI.out.1 HI.out.2.1 HI.out.2.2.1 HI.out.2.2.2 (.slice (some ⟨w.heap.size + 1, 0, none⟩) 0 0) 0 [] (by simp [Act.eval, Act.put]) (by have := World.ownsRow_made (base := w.heap.size + 1) (e := 5) (size := 1) (w.alloc (.cells #[.int .u64 (a : Int), .int .u64 (b : Int)] 39)) #[] 0 (by simp) (Nat.zero_le _) rfl; simpa using this) v l (by simp [Act.eval, Act.put]) (HB.out.later (by go_grown)) (by omega) (by simp) ?_; intro v' w1 hown hg)
    have b1 : Below (w.heap.size + 1) (w.alloc (.cells #[.int .u64 (a : Int), .int .u64 (b : Int)] 39)) w1 := (by go_grown : Below (w.heap.size + 1) (w.alloc (.cells #[.int .u64 (a : Int), .int .u64 (b : Int)] 39)) ((w.alloc (.cells #[.int .u64 (a : Int), .int .u64 (b : Int)] 39)).alloc (.cells #[] 5))).trans (below_grown hg _ (by simp) (by simp [Value.ownBlock]))
    have HO := hide_ hown
    clear hown hg
    go_loopw [7, 8] (fun out i wr => ∃ m : Nat, m ≤ s ∧ i = .int .i64 ((m : Int) - 1) ∧ Hid (wr.ownsRow (w.heap.size + 1) 5 1 out (l.length + (s - m)) (u8s (l ++ T.take (s - m)))) ∧ Below (w.heap.size + 1) (w.alloc (.cells #[.int .u64 (a : Int), .int .u64 (b : Int)] 39)) wr) (fun _ i _ => (intOf i + 1).toNat)
    case atStart =>
      refine ⟨s, Nat.le_refl _, ?_, ?_, b1⟩
      · first | rfl | (rw [H2.out]; rfl)
      · show World.ownsRow _ _ _ _ _ _ _
        have := HO.out
        simpa using this
    case round =>
      obtain ⟨m, hm, rfl, O, bel⟩ := hrel
      have hsz := bel.size
      have c0 : wr.cell? ⟨w.heap.size, 0, none⟩ = some (.int .u64 (a : Int)) := by rw [bel.cell (by simp)]; simp
      have c1 : wr.cell? ⟨w.heap.size, 1, none⟩ = some (.int .u64 (b : Int)) := by rw [bel.cell (by simp)]; simp
      simp only [World.size_alloc] at hsz
      by_cases h0 : m = 0
      · subst h0
        go_wp2
        go_ret
        refine ⟨_, rfl, ?_, (by go_grown : Below w.heap.size w (w.alloc (.cells #[.int .u64 (a : Int), .int .u64 (b : Int)] 39))).trans (bel.mono (by omega))⟩
        have := ownsRow_base O.out (base' := w.heap.size) (by omega)
        simp only [Nat.sub_zero] at this
        rw [List.take_of_length_le (by have := HT.out; omega)] at this
        exact this
      · obtain ⟨k, rfl⟩ : ∃ k, m = k + 1 := ⟨m - 1, by omega⟩
        rw [show (((k + 1 : Nat) : Int) - 1) = (k : Int) by omega]
        have hk0 : (0 : Int) ≤ (k : Int) := by omega
        go_wp2_with fail
        refine (HP.out k (by omega) _).mono ?_
        rintro e w2 ⟨z, hz, rfl, b2⟩
        have HZ := hide_ hz
        clear hz
        have O2 := hide_ (ownsRow_later O.out b2)
        have hs2 := b2.size
        go_wp2_with (at_builtin; refine wpList_append_lit (.tmp 20) (.tmp 24) 51 rfl 5 i0 Try.underlying51 HI.out.1 HI.out.2.1 HI.out.2.2.1 HI.out.2.2.2 (w.heap.size + 1) u7 (l.length + (s - (k + 1))) (u8s (l ++ T.take (s - (k + 1)))) (by simp [Act.eval, Act.put]) w2 O2.out [z] _ rfl 1 rfl (by simp [Act.eval, Act.put]) (by simp [Region.wanted]) (by simp; omega) (by omega) ?_; intro v3 w3 hown3 hb3)
        have O3 : Hid (w3.ownsRow (w.heap.size + 1) 5 1 v3 (l.length + (s - k)) (u8s (l ++ T.take (s - k)))) := by
          have e1 := tail_snoc T s k z HT.out (by omega) HZ.out
          show World.ownsRow _ _ _ _ _ _ _
          rw [e1, ← List.append_assoc, u8s_append, show l.length + (s - k) = l.length + (s - (k + 1)) + [z].length by simp; omega]
          exact hown3
        clear hown3 O O2
        go_wp2
        go_roundw
        case rel => exact ⟨k, by omega, rfl, O3, (bel.trans (b2.mono (by omega))).trans (hb3.mono (Nat.le_refl _))⟩
        case measure => simp [intOf]

theorem rwput_any (v : Value) (l : List Int) (a b : Nat) (size : Int) (w : World) (hB : Bytes w v l) (hl : l.length ≤ 100000000000000) (ha : a < 18446744073709551616) (hb : b < 18446744073709551616) :
    Calls Try.prog 58 #[v, wd a b, .int .i64 size] w fun e w' => ∃ r, e = .returned r ∧ Bytes w' r (l ++ wtail a b size) ∧ Below w.heap.size w w' := by
  have hcl := cl_le size 16
  have hlen := wtail_length a b size
  have hBt : isB (wtail a b size) := fun z hz => w16_isB a b ha hb z (List.mem_of_mem_drop hz)
  have hall := hB.isB_.app hBt
  refine (rwput_core v l (wtail a b size) a b size (cl size 16) w hB hl hcl hlen (by show _ = _; unfold cl; omega) (fun m hm w => ?_)).mono fun e w' ⟨r, he, ho, hb⟩ => ⟨r, he, ?_, hb⟩
  · refine (part_any a b m w ha hb (by omega)).mono fun e w' ⟨z, hz, he, hb⟩ => ⟨z, ?_, he, hb⟩
    unfold wtail
    rw [List.getElem?_drop, show 16 - cl size 16 + (cl size 16 - (m + 1)) = 15 - m by omega]
    exact hz
  · refine Bytes.ofOwn (l := l ++ wtail a b size) (base := w.heap.size) (e := 5) ?_ hall
    rw [List.length_append, hlen]
    exact ho

end Go.Proofs.Ytmpfpolanndakaa
