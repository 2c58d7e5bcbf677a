import Derived.Test.YtmpfpolanndakaaProg
import Derived.Test.YtmpfpolanndakaaK
import Derived.Test.YtmpfpolanndakaaG
import Derived.Test.YtmpfpolanndakaaH
import Derived.Test.YtmpfpolanndakaaM
import Derived.Test.YtmpfpolanndakaaU
import Derived.Test.YtmpfpolanndakaaW
import Derived.Test.YtmpfpolanndakaaCa
import Derived.Test.YtmpfpolanndakaaCd
import Derived.Test.YtmpfpolanndakaaCe
import Derived.Test.YtmpfpolanndakaaCf
import Derived.Below
import Derived.BigQuiet
import Derived.BigRegion
import Derived.Deep.QuietTactic
import Derived.Deep.RegionHeld3
import Derived.Deep.RegionLaw
import Derived.Deep.RegionLawGrows
import Derived.Handy
import Derived.Laws.AppendOwn
import Derived.Laws.AppendOwnNone
import Derived.Laws.BitsAllLaws
import Derived.Laws.BitsLemmas
import Derived.Laws.CopyOwn
import Derived.Laws.OwnMore
import Derived.Laws.Rows
import Derived.Laws.StructEq
import Derived.OpenShut
import Derived.ProofKit
import Derived.RegionTactic
import Derived.WalkKit
import Derived.WalkLawsBesides
import Derived.WalkSmall
import Derived.WalkSpells
namespace Go.Proofs.Ytmpfpolanndakaa
open Go Go.RowKit
set_option linter.unusedVariables false
set_option linter.unusedSimpArgs false

theorem shift_step (V : Nat) (z : Int) (hV : V < 1329227995784915872903807060280344576) (hz : 0 ≤ z ∧ z ≤ 255) :
    bits .or .u64 (IntKind.u64.wrap (((V / 18446744073709551616 : Nat) : Int) * 256)) (((V % 18446744073709551616 : Nat) : Int) / 72057594037927936) = (((V * 256 + z.toNat) / 18446744073709551616 : Nat) : Int) ∧
    bits .or .u64 (IntKind.u64.wrap (((V % 18446744073709551616 : Nat) : Int) * 256)) z = (((V * 256 + z.toNat) % 18446744073709551616 : Nat) : Int) := by
  obtain ⟨n, rfl⟩ := Int.eq_ofNat_of_zero_le hz.1
  have hn : n ≤ 255 := by omega
  generalize hx : V / 18446744073709551616 = x
  generalize hy : V % 18446744073709551616 = y
  have hV' : V = x * 18446744073709551616 + y := by omega
  have hy2 : y < 18446744073709551616 := by omega
  have hx2 : x < 72057594037927936 := by omega
  clear hx hy hV
  subst hV'
  constructor
  · have e : IntKind.u64.wrap ((x : Int) * 256) = ((x * 256 : Nat) : Int) := by rw [IntKind.wrap_u64]; omega
    have e2 : ((y : Int) / 72057594037927936) = ((y / 72057594037927936 : Nat) : Int) := by omega
    rw [e, e2, u64_or_nat _ _ (by omega) (by omega), nat_join 8 (x * 256) _ (by omega) (by omega)]
    simp only [Int.toNat_natCast]
    omega
  · have e : IntKind.u64.wrap ((y : Int) * 256) = ((y * 256 % 18446744073709551616 : Nat) : Int) := by rw [IntKind.wrap_u64]; omega
    rw [e, u64_or_nat _ _ (by omega) (by omega), nat_join 8 (y * 256 % 18446744073709551616) _ (by omega) (by omega)]
    simp only [Int.toNat_natCast]
    omega

theorem bev15 (l : List Int) (hB : isB l) (k : Nat) (hk : k ≤ 15) : bev (l.take k) < 1329227995784915872903807060280344576 := by
  have h1 := bev_lt (l.take k) (isB_take hB k)
  have h2 : (l.take k).length ≤ 15 := by simp; omega
  have h3 : 256 ^ (l.take k).length ≤ 256 ^ 15 := Nat.pow_le_pow_right (by decide) h2
  have h4 : (256 : Nat) ^ 15 = 1329227995784915872903807060280344576 := by decide
  omega

/-- the halves of what was got so far -/
def gh (l : List Int) (k : Nat) : Nat := bev (l.take k) / 18446744073709551616

def gl (l : List Int) (k : Nat) : Nat := bev (l.take k) % 18446744073709551616

theorem get_step (l : List Int) (hB : isB l) (k : Nat) (hk : k < 16) (hl : k < l.length) : ∃ z, l[k]? = some z ∧ IntKind.u64.wrap z = z ∧
    bits .or .u64 (IntKind.u64.wrap ((gh l k : Int) * 256)) ((gl l k : Int) / 72057594037927936) = (gh l (k + 1) : Int) ∧ bits .or .u64 (IntKind.u64.wrap ((gl l k : Int) * 256)) z = (gl l (k + 1) : Int) := by
  have h : l[k]? = some l[k] := List.getElem?_eq_getElem hl
  have hz := hB _ (List.mem_of_getElem? h)
  refine ⟨l[k], h, by rw [IntKind.wrap_u64]; omega, ?_⟩
  have := shift_step (bev (l.take k)) l[k] (bev15 l hB k (by omega)) hz
  unfold gh gl
  rw [take_snoc_z l k _ h, bev_snoc]
  exact this

set_option maxRecDepth 100000 in
set_option maxHeartbeats 4000000 in
theorem rwget_yes (ao : Option Addr) (cap : Nat) (l : List Int) (s : Nat) (w : World) (hB : Bytes w (.slice ao l.length cap) l) (hl : s ≤ l.length) (hs16 : s ≤ 16) :
    Calls Try.prog 56 #[.slice ao l.length cap, .int .i64 (s : Int)] w fun e w' => e = .returned (.tuple #[.agg #[.int .u64 (gh l s : Nat), .int .u64 (gl l s : Nat)], .bool true]) ∧ Below w.heap.size w w' := by
  obtain ⟨hx, hc1, hc2, hc3⟩ := hB.bounds
  obtain ⟨_, _, _, hat⟩ := hB.at
  have HAT := hide_ hat
  have HST := hide_ (fun k => get_step l hB.isB_ k)
  clear hB hc3 hx hat
  have H0 : Hid (gh l 0 = 0 ∧ gl l 0 = 0) := ⟨by simp [gh, bev], by simp [gl, bev]⟩
  have g0 : ¬ (s : Int) < 0 := by omega
  have g1 : ¬ (16 : Int) < (s : Int) := by omega
  have g2 : ¬ (l.length : Int) < (s : Int) := by omega
  go_enter Try.func56, Try.ntmps56
  go_wp2
  go_loopw [7] (fun i wr => ∃ k : Nat, k ≤ s ∧ i = .int .i64 k ∧ Hid (Two wr w.heap.size 0 0) ∧ Hid (Two wr (w.heap.size + 1) (gh l k) (gl l k)) ∧ Below w.heap.size w wr) (fun i _ => s - (intOf i).toNat)
  case atStart =>
    refine ⟨0, Nat.zero_le _, rfl, ?_, ?_, by go_grown⟩
    · exact ⟨by simp [go_sem], by simp [go_sem], by simp [go_sem], by simp [go_sem]⟩
    · show Two _ _ _ _
      rw [H0.out.1, H0.out.2]
      exact ⟨by simp [go_sem], by simp [go_sem], by simp [go_sem], by simp [go_sem]⟩
  case round =>
    obtain ⟨k, hk, rfl, T0, T1, bel⟩ := hrel
    by_cases hkt : k < s
    · obtain ⟨z, hz, wz, r1, r2⟩ := HST.out k (by omega) (by omega)
      obtain ⟨b, off, rfl, hc⟩ := HAT.out k z hz
      have c0 := cell_later bel hc
      clear hz hc
      obtain ⟨x', ex⟩ : ∃ x', gh l (k + 1) = x' := ⟨_, rfl⟩
      obtain ⟨y', ey⟩ : ∃ y', gl l (k + 1) = y' := ⟨_, rfl⟩
      rw [ex] at r1
      rw [ey] at r2
      have EX := hide_ ex
      have EY := hide_ ey
      clear ex ey
      have t0 : Two wr w.heap.size 0 0 := T0.out
      have t1 : Two wr (w.heap.size + 1) (gh l k) (gl l k) := T1.out
      generalize gh l k = x at *
      generalize gl l k = y at *
      obtain ⟨d0, d1, f0, f1⟩ := t1
      have hk1 : (0 : Int) ≤ (k : Int) := by omega
      have hk2 : (k : Int) < (s : Int) := by omega
      have hk3 : (k : Int) < (l.length : Int) := by omega
      have HT0 := hide_ t0
      clear t0
      go_wp2_with fail
      go_region
      have t1' : Two wr (w.heap.size + 1) x y := T1.out
      have T0' := hide_ ((HT0.out.far (f := w.heap.size + 1) (u := x') (v := y') (by omega)).later ((Below.refl _ _).drew))
      have T1' := hide_ ((t1'.set x' y').later ((Below.refl _ _).drew))
      clear t1' T0 T1 HT0 d0 d1 f0 f1 c0 r1 r2 wz HAT
      go_wp2
      go_roundw
      case rel => exact ⟨k + 1, by omega, by go_num, T0', by show Two _ _ _ _; rw [EX.out, EY.out]; exact T1'.out, ((bel.setCell (Nat.le_succ _) _).setCell (Nat.le_succ _) _).drew⟩
      case measure => simp [intOf]; omega
    · have he : k = s := by omega
      subst he
      have t0 : Two wr w.heap.size 0 0 := T0.out
      have t1 : Two wr (w.heap.size + 1) (gh l k) (gl l k) := T1.out
      obtain ⟨c0, c1, f0, f1⟩ := t1
      obtain ⟨d0, d1, g0', g1'⟩ := t0
      obtain ⟨s0, s1⟩ := set2 (u := .int .u64 (gh l k : Int)) (v := .int .u64 (gl l k : Int)) d0 d1
      clear T0 T1
      go_wp2
      exact bodyPost_ret (v := .tuple #[.agg #[.int .u64 (gh l k : Int), .int .u64 (gl l k : Int)], .bool true]) (by simp [results, Try.results56, go_sem, s0, s1]) rfl ⟨rfl, (bel.setCell (Nat.le_refl _) _).setCell (Nat.le_refl _) _⟩

/-- the halves of what is got, and whether there is something -/
def gx (l : List Int) (size : Int) : Nat := gv l size / 18446744073709551616

def gy (l : List Int) (size : Int) : Nat := gv l size % 18446744073709551616

theorem wget_any (v : Value) (l : List Int) (size : Int) (w : World) (hB : Bytes w v l) :
    Calls Try.prog 55 #[v, .int .i64 size] w fun e w' => e = .returned (.tuple #[.agg #[.int .u64 (gx l size : Nat), .int .u64 (gy l size : Nat)], .bool (gok l size)]) ∧ Below w.heap.size w w' := by
  obtain ⟨ao, cap, rfl⟩ := hB.short
  obtain ⟨hx, hc1, hc2, hc3⟩ := hB.bounds
  unfold gx gy gv
  cases h : gok l size
  · simp only [Bool.false_eq_true, if_false, Nat.zero_div, Nat.zero_mod]
    exact wget_no ao cap l size w (by omega) h
  · obtain ⟨h1, h2, h3⟩ := gok_in h
    obtain ⟨s, rfl⟩ := Int.eq_ofNat_of_zero_le h1
    simp only [if_true, Int.toNat_natCast]
    exact wget_yes ao cap l s (16 - s) w hB (by omega) (by omega) (fun wx => sl40 _ _ _ (by omega) wx)

theorem rwget_any (v : Value) (l : List Int) (size : Int) (w : World) (hB : Bytes w v l) :
    Calls Try.prog 56 #[v, .int .i64 size] w fun e w' => e = .returned (.tuple #[.agg #[.int .u64 (gx l size : Nat), .int .u64 (gy l size : Nat)], .bool (gok l size)]) ∧ Below w.heap.size w w' := by
  obtain ⟨ao, cap, rfl⟩ := hB.short
  obtain ⟨hx, hc1, hc2, hc3⟩ := hB.bounds
  unfold gx gy gv
  cases h : gok l size
  · simp only [Bool.false_eq_true, if_false, Nat.zero_div, Nat.zero_mod]
    exact rwget_no ao cap l size w (by omega) h
  · obtain ⟨h1, h2, h3⟩ := gok_in h
    obtain ⟨s, rfl⟩ := Int.eq_ofNat_of_zero_le h1
    simp only [if_true, Int.toNat_natCast]
    exact rwget_yes ao cap l s w hB (by omega) (by omega)

end Go.Proofs.Ytmpfpolanndakaa
