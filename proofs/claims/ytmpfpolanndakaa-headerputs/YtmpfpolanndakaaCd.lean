import Derived.Test.YtmpfpolanndakaaProg
import Derived.Test.YtmpfpolanndakaaK
import Derived.Test.YtmpfpolanndakaaG
import Derived.Test.YtmpfpolanndakaaU
import Derived.Test.YtmpfpolanndakaaW
import Derived.Test.YtmpfpolanndakaaCa
import Derived.Below
import Derived.BigQuiet
import Derived.BigRegion
import Derived.Deep.QuietTactic
import Derived.Deep.RegionHeld3
import Derived.Deep.RegionLaw
import Derived.Deep.RegionLawGrows
import Derived.Handy
import Derived.Laws.AppendOwn
import Derived.Laws.AppendOwnNone
import Derived.Laws.BitsAllLaws
import Derived.Laws.BitsLemmas
import Derived.Laws.CopyOwn
import Derived.Laws.OwnMore
import Derived.Laws.Rows
import Derived.Laws.StructEq
import Derived.OpenShut
import Derived.ProofKit
import Derived.RegionTactic
import Derived.WalkKit
import Derived.WalkLawsBesides
import Derived.WalkSmall
import Derived.WalkSpells
namespace Go.Proofs.Ytmpfpolanndakaa
open Go Go.RowKit
set_option linter.unusedVariables false
set_option linter.unusedSimpArgs false

theorem shl8_or (x : Nat) (z : Int) (hx : x < 72057594037927936) (hz : 0 ≤ z ∧ z ≤ 255) : bits .or .u64 (IntKind.u64.wrap ((x : Int) * 256)) z = ((x * 256 + z.toNat : Nat) : Int) := by
  have e : IntKind.u64.wrap ((x : Int) * 256) = ((x * 256 : Nat) : Int) := by rw [IntKind.wrap_u64]; omega
  obtain ⟨n, rfl⟩ := Int.eq_ofNat_of_zero_le hz.1
  rw [e, u64_or_nat _ _ (by omega) (by omega), nat_join 8 (x * 256) n (by omega) (by omega)]
  simp

theorem take_snoc_z (L : List Int) (k : Nat) (z : Int) (h : L[k]? = some z) : L.take (k + 1) = L.take k ++ [z] := by
  rw [List.take_add_one, h]; rfl

theorem bev_take_lt (L : List Int) (hL : isB L) (k : Nat) (hk : k ≤ 7) : bev (L.take k) < 72057594037927936 := by
  have h1 := bev_lt (L.take k) (isB_take hL k)
  have h2 : (L.take k).length ≤ 7 := by simp; omega
  have h3 : 256 ^ (L.take k).length ≤ 256 ^ 7 := Nat.pow_le_pow_right (by decide) h2
  have h4 : (256 : Nat) ^ 7 = 72057594037927936 := by decide
  omega

theorem read_step (L : List Int) (hL : isB L) (k : Nat) (hk : k < 8) (hl : 8 ≤ L.length) : ∃ z x y, L[k]? = some z ∧ IntKind.u64.wrap z = z ∧ bev (L.take k) = x ∧ bev (L.take (k + 1)) = y ∧ bits .or .u64 (IntKind.u64.wrap ((x : Int) * 256)) z = (y : Int) := by
  have h : L[k]? = some L[k] := List.getElem?_eq_getElem (by omega)
  have hz := hL _ (List.mem_of_getElem? h)
  refine ⟨L[k], _, _, h, by rw [IntKind.wrap_u64]; omega, rfl, rfl, ?_⟩
  rw [take_snoc_z L k _ h, bev_snoc, shl8_or _ _ (bev_take_lt L hL k (by omega)) hz]

set_option maxRecDepth 100000 in
set_option maxHeartbeats 4000000 in
theorem wread_core (L M : List Int) (hL : isB L) (hM : isB M) (h8 : L.length = 8) (k8 : M.length = 8) (w : World) :
    Calls Try.prog 64 #[.agg (u8s (L ++ M)).toArray] w fun e w' => e = .returned (.agg #[.int .u64 (bev L : Int), .int .u64 (bev M : Int)]) ∧ Below w.heap.size w w' := by
  have H8 := hide_ h8
  have K8 := hide_ k8
  clear h8 k8
  have HL := hide_ hL
  have HM := hide_ hM
  clear hL hM
  obtain ⟨cs, hcs⟩ : ∃ cs, cs = (u8s (L ++ M)).toArray := ⟨_, rfl⟩
  have HC := hide_ hcs
  rw [← hcs]
  clear hcs
  go_enter Try.func64, Try.ntmps64
  go_wp2
  go_loopw [5] (fun i wr => ∃ k : Nat, k ≤ 8 ∧ i = .int .i64 k ∧ Hid (Two wr (w.heap.size + 1) 0 0) ∧ Hid (Two wr (w.heap.size + 1 + 1) (bev (L.take k)) (bev (M.take k))) ∧ Below (w.heap.size + 1) (w.alloc (.cells cs 76)) wr) (fun i _ => 8 - (intOf i).toNat)
  case atStart =>
    refine ⟨0, Nat.zero_le _, rfl, ?_, ?_, ?_⟩
    · exact ⟨by simp [go_sem], by simp [go_sem], by simp [go_sem], by simp [go_sem]⟩
    · exact ⟨by simp [go_sem, bev], by simp [go_sem, bev], by simp [go_sem], by simp [go_sem]⟩
    · go_grown
  case round =>
    obtain ⟨k, hk, rfl, T0, T1, bel⟩ := hrel
    have hsz := bel.size
    simp only [World.size_alloc] at hsz
    by_cases hkt : k < 8
    · obtain ⟨z, x, x', hz, wz, ex, ex', r1⟩ := read_step L HL.out k hkt (by have := H8.out; omega)
      obtain ⟨y, u, u', hy, wy, eu, eu', r2⟩ := read_step M HM.out k hkt (by have := K8.out; omega)
      have c0 : wr.cell? ⟨w.heap.size, k, none⟩ = some (.int .u8 z) := by
        rw [bel.cell (by simp), World.cell?_alloc_new, HC.out]
        simp only [List.getElem?_toArray, u8s, List.getElem?_map]
        rw [List.getElem?_append_left (by have := H8.out; omega), hz]; rfl
      have c1 : wr.cell? ⟨w.heap.size, 8 + k, none⟩ = some (.int .u8 y) := by
        rw [bel.cell (by simp), World.cell?_alloc_new, HC.out]
        simp only [List.getElem?_toArray, u8s, List.getElem?_map]
        rw [List.getElem?_append_right (by have := H8.out; omega), show 8 + k - L.length = k by have := H8.out; omega, hy]; rfl
      rw [ex, eu] at T1
      have EX := hide_ ex'
      have EU := hide_ eu'
      clear ex ex' eu eu' hz hy
      obtain ⟨d0, d1, f0, f1⟩ := T1.out
      have hk1 : (0 : Int) ≤ (k : Int) := by omega
      have hk2 : (k : Int) < 8 := by omega
      go_wp2_with fail
      go_region
      go_wp2_with fail
      go_region
      have t0 : Two wr (w.heap.size + 1) 0 0 := T0.out
      have t1 : Two wr (w.heap.size + 1 + 1) x u := T1.out
      have T0' := hide_ (((t0.far (f := w.heap.size + 1 + 1) (u := x') (v := u') (by omega)).later ((Below.refl _ _).drew)).later ((Below.refl _ _).drew))
      have T1' := hide_ (((t1.set x' u').later ((Below.refl _ _).drew)).later ((Below.refl _ _).drew))
      clear t0 t1 T0 T1 d0 d1 f0 f1 c0 c1 r1 r2 wz wy
      go_wp2
      go_roundw
      case rel => exact ⟨k + 1, by omega, by go_num, T0', by show Two _ _ _ _; rw [EX.out, EU.out]; exact T1'.out, (((bel.setCell (by simp) _).setCell (by simp) _).drew).drew⟩
      case measure => simp [intOf]; omega
    · have he : k = 8 := by omega
      subst he
      obtain ⟨c0, c1, f0, f1⟩ := T1.out
      obtain ⟨d0, d1, g0, g1⟩ := T0.out
      rw [List.take_of_length_le (by have := H8.out; omega)] at c0
      rw [List.take_of_length_le (by have := K8.out; omega)] at c1
      obtain ⟨s0, s1⟩ := set2 (u := .int .u64 (bev L : Int)) (v := .int .u64 (bev M : Int)) d0 d1
      clear T0 T1
      go_wp2
      exact bodyPost_ret (v := .agg #[.int .u64 (bev L : Int), .int .u64 (bev M : Int)]) (by simp [results, Try.results64, go_sem, s0, s1]) rfl ⟨rfl, ((by go_grown : Below w.heap.size w (w.alloc (.cells cs 76))).trans (bel.mono (by omega))).setCell (by simp) _ |>.setCell (by simp) _⟩

end Go.Proofs.Ytmpfpolanndakaa
