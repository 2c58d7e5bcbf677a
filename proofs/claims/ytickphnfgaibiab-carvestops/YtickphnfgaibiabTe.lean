import Derived.Test.YtickphnfgaibiabProg
import Derived.Test.YtickphnfgaibiabN
import Derived.Test.YtickphnfgaibiabK
import Derived.Test.YtickphnfgaibiabR
import Derived.Test.YtickphnfgaibiabS
import Derived.Test.YtickphnfgaibiabU
import Derived.Test.YtickphnfgaibiabV
import Derived.Test.YtickphnfgaibiabCc
import Derived.Test.YtickphnfgaibiabFe
import Derived.Test.YtickphnfgaibiabHh
import Derived.Test.YtickphnfgaibiabGa
import Derived.Test.YtickphnfgaibiabTb
import Derived.Test.YtickphnfgaibiabTd
import Derived.Test.YtickphnfgaibiabTl
import Derived.Below
import Derived.BigQuiet
import Derived.BigRegion
import Derived.ChangeAlike
import Derived.ChangeKeysEq
import Derived.ChangeSame
import Derived.DataElems
import Derived.Deep.MidRow
import Derived.Deep.QuietTactic
import Derived.Deep.RegionHeld
import Derived.Deep.RegionHeld3
import Derived.Deep.RegionLaw
import Derived.Deep.RegionLawGrows
import Derived.Deep.RegionWith
import Derived.Deep.WholeRow
import Derived.Great.BuildSlice
import Derived.Handy
import Derived.Laws.AppendOwn
import Derived.Laws.AppendOwnNone
import Derived.Laws.BitsAllLaws
import Derived.Laws.BitsLemmas
import Derived.Laws.CopyOwn
import Derived.Laws.OwnMore
import Derived.Laws.Rows
import Derived.Laws.StructEq
import Derived.Laws.Tables
import Derived.Lib.BitFns
import Derived.Lib.SmallJoins
import Derived.OpenShut
import Derived.ProofKit
import Derived.RegionTactic
import Derived.WalkKit
import Derived.WalkLawsBesides
import Derived.WalkSmall
import Derived.WalkSpells
import Derived.WideShapes
namespace Go.Proofs.Ytickphnfgaibiab
open Go Go.RowKit
set_option linter.unusedVariables false
set_option linter.unusedSimpArgs false

/-- how long a slice is -/
def slen : Value → Nat
  | .slice _ n _ => n
  | _ => 0

theorem own_far {w : World} {base n g o size : Nat} {e : TypeId} {v : Value} {xs : List Value} (h : w.ownsRow base e size v n xs) (hg : g < base) (x : Value) : (w.setCell ⟨g, o, none⟩ x).ownsRow base e size v n xs := by
  refine ⟨h.1, ?_⟩
  rcases h.2 with hn | ⟨k, cap, cur, rfl, hk, hkk, rest⟩
  · exact Or.inl hn
  · exact Or.inr ⟨k, cap, cur, rfl, hk, by rw [Go.heap_setCell_other w ⟨g, o, none⟩ k x (by dsimp only; omega)]; exact hkk, rest⟩

theorem bit_nat (k : Nat) (w : World) (h : k < 128) : Calls Try.prog 51 #[.int .i64 (k : Int)] w fun e w' => e = .returned (wd (bh k) (bl k)) ∧ Below w.heap.size w w' := by
  have := bit_any (k : Int) w
  rwa [bhz_nat k h, blz_nat k h] at this

theorem rhasb (a b k : Nat) (w : World) (ha : a < 18446744073709551616) (hb : b < 18446744073709551616) (h : k < 128) : Calls Try.prog 72 #[wd a b, .int .i64 (k : Int)] w fun e w' => e = .returned (.bool (hasb a b k)) ∧ Below w.heap.size w w' := by
  have := rhas_any a b (k : Int) w ha hb
  rwa [hasz_nat a b k h] at this

set_option maxRecDepth 100000 in
set_option maxHeartbeats 1000000 in
theorem highest_any (a b : Nat) (w : World) (ha : a < 18446744073709551616) (hb : b < 18446744073709551616) (h : (a == 0 && b == 0) = false) :
    Calls Try.prog 50 #[wd a b] w fun e w' => e = .returned (.int .i64 (top a b : Nat)) ∧ Below w.heap.size w w' := by
  have q1 := hide_ (fun w => len64_any a w ha)
  have q2 := hide_ (fun w => len64_any b w hb)
  unfold wd
  by_cases h0 : a = 0
  · subst h0
    have hb0 : b ≠ 0 := by rintro rfl; simp at h
    have e : top 0 b = Lib.bitLen b - 1 := by unfold top; rw [if_pos rfl]
    obtain ⟨p, q, -, -⟩ := bitLen_top b hb hb0
    rw [e]
    clear e h ha hb hb0 q1
    generalize Lib.bitLen b = m at *
    go_enter Try.func50, Try.ntmps50
    go_wp2_with (go_at_call 65; refine (q2.out _).mono ?_; rintro e w1 ⟨rfl, rfl⟩)
    go_ret
    exact ⟨ret_int (by omega), by go_grown⟩
  · have h0' : (((a : Nat) : Int) == 0) = false := by simp; omega
    have e : top a b = 64 + Lib.bitLen a - 1 := by unfold top; rw [if_neg h0]
    obtain ⟨p, q, -, -⟩ := bitLen_top a ha h0
    rw [e]
    clear e h ha hb h0 q2
    generalize Lib.bitLen a = m at *
    go_enter Try.func50, Try.ntmps50
    go_wp2_with (go_at_call 65; refine (q1.out _).mono ?_; rintro e w1 ⟨rfl, rfl⟩)
    go_ret
    exact ⟨ret_int (by omega), by go_grown⟩

set_option maxRecDepth 100000 in
set_option maxHeartbeats 2000000 in
theorem rtbits_any (a b c d a2 b2 c2 d2 : Nat) (w : World) (ha : a < 18446744073709551616) (hb : b < 18446744073709551616) (hc : c < 18446744073709551616) (hd : d < 18446744073709551616) (ha2 : a2 < 18446744073709551616) (hb2 : b2 < 18446744073709551616) (hc2 : c2 < 18446744073709551616) (hd2 : d2 < 18446744073709551616) :
    Calls Try.prog 71 #[td a b c d, td a2 b2 c2 d2] w fun e w' => ∃ u, e = .returned u ∧ Cells w' u 1 (fall (hasb (andn c2 c) (andn d2 d)) 128).length (i64s (fall (hasb (andn c2 c) (andn d2 d)) 128)) ∧ Below w.heap.size w w' := by
  have Y1 := hide_ (fun (j : Nat) (hj : j < 128) w => rhasb c2 d2 j w hc2 hd2 hj)
  have Y2 := hide_ (fun (j : Nat) (hj : j < 128) w => rhasb c d j w hc hd hj)
  rw [show fall (hasb (andn c2 c) (andn d2 d)) 128 = fall (fun i => hasb c2 d2 i && !hasb c d i) 128 from fall_congr (fun i hi => less_hasb c2 d2 c d i hc hd hi)]
  have HL0 := fall_len (fun i => hasb c2 d2 i && !hasb c d i) 128
  obtain ⟨P, hP⟩ : ∃ P : Nat → Bool, (fun i => hasb c2 d2 i && !hasb c d i) = P := ⟨_, rfl⟩
  have HPP : Hid (∀ i, P i = (hasb c2 d2 i && !hasb c d i)) := hide_ (fun i => by rw [← hP])
  rw [hP] at HL0 ⊢
  clear hP
  generalize hasb c2 d2 = p1 at *
  generalize hasb c d = p2 at *
  obtain ⟨L, HL⟩ : ∃ L, fall P 128 = L := ⟨_, rfl⟩
  rw [HL] at HL0 ⊢
  obtain ⟨i0, hi0, hz0, hz1, hz2⟩ := info_parts info3
  have HI : Hid (Try.prog.info? 3 = some i0 ∧ i0.zero = some (.int .i64 0) ∧ i0.size = 1 ∧ i0.bytes = 8) := ⟨hi0, hz0, hz1, hz2⟩
  clear hi0 hz0 hz1 hz2 ha hb hc hd ha2 hb2 hc2 hd2
  have HF := hide_ HL
  clear HL
  unfold td at *
  unfold wd at *
  have hA := hide_ (((AB.at0 w 26 [.int .u64 (a : Int), .int .u64 (b : Int), .int .u64 (c : Int), .int .u64 (d : Int)]).alloc (.cells #[.int .u64 (a2 : Int), .int .u64 (b2 : Int), .int .u64 (c2 : Int), .int .u64 (d2 : Int)] 26)).alloc (.cells #[] 3))
  have hC := hide_ ((AB.at1 w (.cells #[.int .u64 (a : Int), .int .u64 (b : Int), .int .u64 (c : Int), .int .u64 (d : Int)] 26) 26 [.int .u64 (a2 : Int), .int .u64 (b2 : Int), .int .u64 (c2 : Int), .int .u64 (d2 : Int)]).alloc (.cells #[] 3))
  have hB := hide_ (below3 w (.cells #[.int .u64 (a : Int), .int .u64 (b : Int), .int .u64 (c : Int), .int .u64 (d : Int)] 26) (.cells #[.int .u64 (a2 : Int), .int .u64 (b2 : Int), .int .u64 (c2 : Int), .int .u64 (d2 : Int)] 26) (.cells #[] 3))
  have hO : Hid (World.ownsRow (((w.alloc (.cells #[.int .u64 (a : Int), .int .u64 (b : Int), .int .u64 (c : Int), .int .u64 (d : Int)] 26)).alloc (.cells #[.int .u64 (a2 : Int), .int .u64 (b2 : Int), .int .u64 (c2 : Int), .int .u64 (d2 : Int)] 26)).alloc (.cells #[] 3)) (w.heap.size + 1 + 1) 3 1 (.slice (some ⟨w.heap.size + 1 + 1, 0, none⟩) 0 0) 0 []) := hide_ (by have := World.ownsRow_made (base := w.heap.size + 1 + 1) (e := 3) (size := 1) ((w.alloc (.cells #[.int .u64 (a : Int), .int .u64 (b : Int), .int .u64 (c : Int), .int .u64 (d : Int)] 26)).alloc (.cells #[.int .u64 (a2 : Int), .int .u64 (b2 : Int), .int .u64 (c2 : Int), .int .u64 (d2 : Int)] 26)) #[] 0 (by simp) (Nat.zero_le _) rfl; simpa using this)
  go_enter Try.func71, Try.ntmps71
  go_wp2_with fail
  generalize (((w.alloc (.cells #[.int .u64 (a : Int), .int .u64 (b : Int), .int .u64 (c : Int), .int .u64 (d : Int)] 26)).alloc (.cells #[.int .u64 (a2 : Int), .int .u64 (b2 : Int), .int .u64 (c2 : Int), .int .u64 (d2 : Int)] 26)).alloc (.cells #[] 3)) = W at *
  go_loopw [5, 6] (fun u i wr => ∃ (k m : Nat) (ua : Option Addr) (uc : Nat) (out : List Nat), k ≤ 128 ∧ i = .int .i64 ((k : Int) - 1) ∧ u = .slice ua m uc ∧ Hid (out ++ fall P k = L) ∧ Hid (m = out.length) ∧ Hid (AB wr w.heap.size 26 [.int .u64 (a : Int), .int .u64 (b : Int), .int .u64 (c : Int), .int .u64 (d : Int)]) ∧ Hid (AB wr (w.heap.size + 1) 26 [.int .u64 (a2 : Int), .int .u64 (b2 : Int), .int .u64 (c2 : Int), .int .u64 (d2 : Int)]) ∧ Hid (wr.ownsRow (w.heap.size + 1 + 1) 3 1 (.slice ua m uc) m (i64s out)) ∧ Below w.heap.size w wr) (fun _ i _ => (intOf i + 1).toNat)
  case atStart => exact ⟨128, 0, _, _, [], Nat.le_refl _, rfl, rfl, hide_ (by simpa using HF.out), hide_ rfl, hA, hC, by simpa [i64s] using hO, hB.out⟩
  case round =>
    obtain ⟨k, m, ua, uc, out, hk, hi, rfl, HF1, HM, HA, HC, HO, hb⟩ := hrel
    cases k with
    | zero =>
      have e : ((0 : Nat) : Int) - 1 = -1 := by omega
      rw [e] at hi
      subst hi
      go_wp2_with fail
      go_ret
      have e1 : out = L := by have := HF1.out; simpa [fall] using this
      have e2 := HM.out
      subst e2
      subst e1
      exact ⟨_, rfl, Cells.ofOwn HO.out, hb⟩
    | succ j =>
      have e : ((j + 1 : Nat) : Int) - 1 = (j : Int) := by omega
      rw [e] at hi
      subst hi
      have g1 : (0 : Int) ≤ (j : Int) := by omega
      have y1 := hide_ (Y1.out j (by omega))
      have y2 := hide_ (Y2.out j (by omega))
      have HP := hide_ (HPP.out j)
      obtain ⟨-, -, o2, o3, -⟩ := HC.out.four
      obtain ⟨-, -, i2, i3, -⟩ := HA.out.four
      have hml : m + (fall P (j + 1)).length = L.length := by rw [← HF1.out, HM.out]; simp
      cases h1 : p1 j
      · rw [h1] at y1 HP
        go_wp2_with (first | (go_at_call_of 72 (Value.int IntKind.u64 (c2 : Int)); refine (y1.out _).mono ?_; rintro e wy1 ⟨rfl, by1⟩; obtain ⟨-, -, m2, m3, -⟩ := (HA.out.later by1).four))
        go_roundw
        case rel => exact ⟨j, m, ua, uc, out, by omega, by go_num, rfl, hide_ (by rw [← HF1.out, fall, HP.out]; simp), HM, hide_ (HA.out.later by1), hide_ (HC.out.later by1), hide_ (ownsRow_later HO.out by1), hb.trans (by1.mono hb.size)⟩
        case measure => simp [intOf]
      · rw [h1] at y1 HP
        cases h2 : p2 j
        · rw [h2] at y2 HP
          have hml2 : m + 1 ≤ L.length := by rw [← hml, fall, HP.out]; simp
          go_wp2_with (first | (go_at_call_of 72 (Value.int IntKind.u64 (c2 : Int)); refine (y1.out _).mono ?_; rintro e wy1 ⟨rfl, by1⟩; obtain ⟨-, -, m2, m3, -⟩ := (HA.out.later by1).four) | (go_at_call_of 72 (Value.int IntKind.u64 (c : Int)); refine (y2.out _).mono ?_; rintro e wy2 ⟨rfl, by2⟩) | (at_builtin; refine wpList_append_new (.tmp 23) (.tmp 25) 57 rfl 3 i0 (.int .i64 0) 1 8 Try.underlying57 HI.out.1 HI.out.2.1 HI.out.2.2.1 HI.out.2.2.2 rfl (by decide) (w.heap.size + 1 + 1) (.slice ua m uc) m (i64s out) (by simp [Act.eval, Act.put]) wy2 (ownsRow_later HO.out (by1.trans (by2.mono by1.size))) [.int .i64 (j : Int)] _ rfl 1 (by simp) (by simp [Value.oneCell']) (by simp [Act.eval, Act.put]) (by simp [Region.wanted]) (by unfold maxLen; omega) (by omega) (Nat.lt_of_lt_of_le HC.out.lt (Nat.le_trans by1.size by2.size)) ?_; intro v4 w4 ho4 hb4; obtain ⟨va, vc, rfl⟩ := own_slice ho4; have HO4 := hide_ ho4; have K4 : Hid (Below (w.heap.size + 1 + 1) wr w4) := hide_ (((by1.trans (by2.mono by1.size)).mono HC.out.lt).trans hb4); clear ho4 hb4))
          go_roundw
          case rel => exact ⟨j, m + 1, va, vc, out ++ [j], by omega, by go_num, rfl, hide_ (by rw [← HF1.out, fall, HP.out]; simp), hide_ (by have := HM.out; simp; omega), hide_ (HA.out.below K4.out (by omega)), hide_ (HC.out.below K4.out (by omega)), hide_ (by rw [i64s_app]; exact HO4.out), hb.trans (K4.out.mono (by omega))⟩
          case measure => simp [intOf]
        · rw [h2] at y2 HP
          go_wp2_with (first | (go_at_call_of 72 (Value.int IntKind.u64 (c2 : Int)); refine (y1.out _).mono ?_; rintro e wy1 ⟨rfl, by1⟩; obtain ⟨-, -, m2, m3, -⟩ := (HA.out.later by1).four) | (go_at_call_of 72 (Value.int IntKind.u64 (c : Int)); refine (y2.out _).mono ?_; rintro e wy2 ⟨rfl, by2⟩))
          go_roundw
          case rel => exact ⟨j, m, ua, uc, out, by omega, by go_num, rfl, hide_ (by rw [← HF1.out, fall, HP.out]; simp), HM, hide_ (HA.out.later (by1.trans (by2.mono by1.size))), hide_ (HC.out.later (by1.trans (by2.mono by1.size))), hide_ (ownsRow_later HO.out (by1.trans (by2.mono by1.size))), hb.trans ((by1.trans (by2.mono by1.size)).mono hb.size)⟩
          case measure => simp [intOf]

end Go.Proofs.Ytickphnfgaibiab
