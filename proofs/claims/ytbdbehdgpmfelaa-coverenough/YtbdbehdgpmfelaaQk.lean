import Derived.Test.YtbdbehdgpmfelaaProg
import Derived.Test.YtbdbehdgpmfelaaXa
import Derived.Test.YtbdbehdgpmfelaaXf
import Derived.Test.YtbdbehdgpmfelaaXh
import Derived.Test.YtbdbehdgpmfelaaXi
import Derived.Test.YtbdbehdgpmfelaaQc
import Derived.Below
import Derived.BigQuiet
import Derived.BigRegion
import Derived.ChangeAlike
import Derived.ChangeKeysEq
import Derived.ChangeSame
import Derived.DataElems
import Derived.Deep.MidRow
import Derived.Deep.QuietTactic
import Derived.Deep.RegionHeld
import Derived.Deep.RegionHeld3
import Derived.Deep.RegionLaw
import Derived.Deep.RegionLawGrows
import Derived.Deep.RegionWith
import Derived.Deep.WholeRow
import Derived.Great.BuildSlice
import Derived.Handy
import Derived.Laws.AppendOwn
import Derived.Laws.AppendOwnNone
import Derived.Laws.BitsAllLaws
import Derived.Laws.BitsLemmas
import Derived.Laws.CopyOwn
import Derived.Laws.OwnMore
import Derived.Laws.Rows
import Derived.Laws.StructEq
import Derived.Laws.Tables
import Derived.Lib.BitFns
import Derived.Lib.SmallJoins
import Derived.OpenShut
import Derived.ProofKit
import Derived.RegionTactic
import Derived.WalkKit
import Derived.WalkLawsBesides
import Derived.WalkSmall
import Derived.WalkSpells
import Derived.WideShapes
namespace Go.Proofs.Ytbdbehdgpmfelaa
open Go Go.RowKit
set_option linter.unusedVariables false
set_option linter.unusedSimpArgs false

theorem keepA8s {p0 p1 p2 p3 p4 p5 p6 p7 : Addr} {x0 x1 x2 x3 x4 x5 x6 x7 y0 y1 y2 y3 : Value} {w0 wa : World} {g : Nat} (h : wa.cell? p0 = some x0 ∧ wa.cell? p1 = some x1 ∧ wa.cell? p2 = some x2 ∧ wa.cell? p3 = some x3 ∧ wa.cell? p4 = some x4 ∧ wa.cell? p5 = some x5 ∧ wa.cell? p6 = some x6 ∧ wa.cell? p7 = some x7 ∧ Below w0.heap.size w0 wa) (hg : w0.heap.size ≤ g) (n0 : p0.block < w0.heap.size) (n1 : p1.block < w0.heap.size) (n2 : p2.block < w0.heap.size) (n3 : p3.block < w0.heap.size) (n4 : p4.block < w0.heap.size) (n5 : p5.block < w0.heap.size) (n6 : p6.block < w0.heap.size) (n7 : p7.block < w0.heap.size) :
    ((((wa.setCell ⟨g, 0, none⟩ y0).setCell ⟨g, 1, none⟩ y1).setCell ⟨g, 2, none⟩ y2).setCell ⟨g, 3, none⟩ y3).cell? p0 = some x0 ∧ ((((wa.setCell ⟨g, 0, none⟩ y0).setCell ⟨g, 1, none⟩ y1).setCell ⟨g, 2, none⟩ y2).setCell ⟨g, 3, none⟩ y3).cell? p1 = some x1 ∧ ((((wa.setCell ⟨g, 0, none⟩ y0).setCell ⟨g, 1, none⟩ y1).setCell ⟨g, 2, none⟩ y2).setCell ⟨g, 3, none⟩ y3).cell? p2 = some x2 ∧ ((((wa.setCell ⟨g, 0, none⟩ y0).setCell ⟨g, 1, none⟩ y1).setCell ⟨g, 2, none⟩ y2).setCell ⟨g, 3, none⟩ y3).cell? p3 = some x3 ∧ ((((wa.setCell ⟨g, 0, none⟩ y0).setCell ⟨g, 1, none⟩ y1).setCell ⟨g, 2, none⟩ y2).setCell ⟨g, 3, none⟩ y3).cell? p4 = some x4 ∧ ((((wa.setCell ⟨g, 0, none⟩ y0).setCell ⟨g, 1, none⟩ y1).setCell ⟨g, 2, none⟩ y2).setCell ⟨g, 3, none⟩ y3).cell? p5 = some x5 ∧ ((((wa.setCell ⟨g, 0, none⟩ y0).setCell ⟨g, 1, none⟩ y1).setCell ⟨g, 2, none⟩ y2).setCell ⟨g, 3, none⟩ y3).cell? p6 = some x6 ∧ ((((wa.setCell ⟨g, 0, none⟩ y0).setCell ⟨g, 1, none⟩ y1).setCell ⟨g, 2, none⟩ y2).setCell ⟨g, 3, none⟩ y3).cell? p7 = some x7 ∧ Below w0.heap.size w0 ((((wa.setCell ⟨g, 0, none⟩ y0).setCell ⟨g, 1, none⟩ y1).setCell ⟨g, 2, none⟩ y2).setCell ⟨g, 3, none⟩ y3) :=
  ⟨(cell_fill (by omega) _ _ _ _).trans h.1, (cell_fill (by omega) _ _ _ _).trans h.2.1, (cell_fill (by omega) _ _ _ _).trans h.2.2.1, (cell_fill (by omega) _ _ _ _).trans h.2.2.2.1, (cell_fill (by omega) _ _ _ _).trans h.2.2.2.2.1, (cell_fill (by omega) _ _ _ _).trans h.2.2.2.2.2.1, (cell_fill (by omega) _ _ _ _).trans h.2.2.2.2.2.2.1, (cell_fill (by omega) _ _ _ _).trans h.2.2.2.2.2.2.2.1, below_fill h.2.2.2.2.2.2.2.2 hg _ _ _ _⟩

theorem cell_alloc_any {wa : World} {Z Z' : Obj} {p : Addr} {x : Value} (h : (wa.alloc Z).cell? p = some x) (n : p.block < wa.heap.size) : (wa.alloc Z').cell? p = some x := by
  rw [(below1 wa Z').cell n]; rw [(below1 wa Z).cell n] at h; exact h

theorem keepA8a {p0 p1 p2 p3 p4 p5 p6 p7 : Addr} {x0 x1 x2 x3 x4 x5 x6 x7 : Value} {w0 wa : World} {Z Z' : Obj} (h : (wa.alloc Z).cell? p0 = some x0 ∧ (wa.alloc Z).cell? p1 = some x1 ∧ (wa.alloc Z).cell? p2 = some x2 ∧ (wa.alloc Z).cell? p3 = some x3 ∧ (wa.alloc Z).cell? p4 = some x4 ∧ (wa.alloc Z).cell? p5 = some x5 ∧ (wa.alloc Z).cell? p6 = some x6 ∧ (wa.alloc Z).cell? p7 = some x7 ∧ Below w0.heap.size w0 (wa.alloc Z)) (hg : w0.heap.size ≤ wa.heap.size) (n0 : p0.block < w0.heap.size) (n1 : p1.block < w0.heap.size) (n2 : p2.block < w0.heap.size) (n3 : p3.block < w0.heap.size) (n4 : p4.block < w0.heap.size) (n5 : p5.block < w0.heap.size) (n6 : p6.block < w0.heap.size) (n7 : p7.block < w0.heap.size) :
    (wa.alloc Z').cell? p0 = some x0 ∧ (wa.alloc Z').cell? p1 = some x1 ∧ (wa.alloc Z').cell? p2 = some x2 ∧ (wa.alloc Z').cell? p3 = some x3 ∧ (wa.alloc Z').cell? p4 = some x4 ∧ (wa.alloc Z').cell? p5 = some x5 ∧ (wa.alloc Z').cell? p6 = some x6 ∧ (wa.alloc Z').cell? p7 = some x7 ∧ Below w0.heap.size w0 (wa.alloc Z') :=
  ⟨cell_alloc_any h.1 (by omega), cell_alloc_any h.2.1 (by omega), cell_alloc_any h.2.2.1 (by omega), cell_alloc_any h.2.2.2.1 (by omega), cell_alloc_any h.2.2.2.2.1 (by omega), cell_alloc_any h.2.2.2.2.2.1 (by omega), cell_alloc_any h.2.2.2.2.2.2.1 (by omega), cell_alloc_any h.2.2.2.2.2.2.2.1 (by omega), by
    obtain ⟨-, -, -, -, -, -, -, -, hb⟩ := h
    refine ⟨hb.os, hb.tape, hb.output, by simp; omega, fun k hk => ?_⟩
    rw [(below1 wa Z').block k (by omega), ← (below1 wa Z).block k (by omega)]; exact hb.block k hk⟩

set_option maxRecDepth 100000 in
set_option maxHeartbeats 4000000 in
theorem rcmeet_any (l m : List Q4) (hl : isC l) (hm : isC m) (w : World) :
    Calls Try.prog 24 #[cv l, cv m] w fun e w' => e = .returned (.tuple #[cv (meetC l m), .bool (okC l m)]) ∧ Below w.heap.size w w' := by
  have HL := hide_ hl
  have HM := hide_ hm
  obtain ⟨t, ht⟩ : ∃ t : Nat → Q4, (fun k => meet4 (cq l k) (cq m k)) = t := ⟨_, rfl⟩
  obtain ⟨p, hp⟩ : ∃ p : Nat → Bool, (fun k => mok4 (cq l k) (cq m k)) = p := ⟨_, rfl⟩
  have hmt : meetC l m = mapB t p := by rw [← ht, ← hp]; rfl
  have hop : okC l m = allB p 24 := by rw [← hp]; rfl
  have HTT := hide_ (fun k => congrFun ht k)
  have HPP := hide_ (fun k => congrFun hp k)
  rw [hmt, hop]
  clear ht hp hmt hop hl hm
  obtain ⟨R, hR⟩ : ∃ R, Value.tuple #[cv (mapB t p), .bool (allB p 24)] = R := ⟨_, rfl⟩
  have HT : Hid (allB p 24 = true → Value.tuple #[.agg (tdc (mapK t 24)).toArray, .bool true] = R) := hide_ (fun h => by rw [← hR, mapB_true h, h]; rfl)
  have HF : Hid (allB p 24 = false → Value.tuple #[.agg (tdc z24q).toArray, .bool false] = R) := hide_ (fun h => by rw [← hR, mapB_false h, h]; rfl)
  rw [hR]
  clear hR
  have A0 := hide_ ((((AB.at0 w 28 (tdc l)).alloc (.cells (tdc m).toArray 28)).alloc (.cells (tdc z24q).toArray 28)).alloc (.cells (tdc z24q).toArray 28))
  have C0 := hide_ (((AB.at1 w (.cells (tdc l).toArray 28) 28 (tdc m)).alloc (.cells (tdc z24q).toArray 28)).alloc (.cells (tdc z24q).toArray 28))
  have Z0 : Hid (AB ((((w.alloc (.cells (tdc l).toArray 28)).alloc (.cells (tdc m).toArray 28)).alloc (.cells (tdc z24q).toArray 28)).alloc (.cells (tdc z24q).toArray 28)) (w.heap.size + 1 + 1) 28 (tdc z24q)) := hide_ (by rw [zcC]; exact (AB.at2 w (.cells (tdc l).toArray 28) (.cells (tdc m).toArray 28) 28 (tdc z24q)).alloc _)
  have Y0 : Hid (AB ((((w.alloc (.cells (tdc l).toArray 28)).alloc (.cells (tdc m).toArray 28)).alloc (.cells (tdc z24q).toArray 28)).alloc (.cells (tdc z24q).toArray 28)) (w.heap.size + 1 + 1 + 1) 28 (tdc z24q)) := hide_ (by rw [zcC]; have := AB.at2 (w.alloc (.cells (tdc l).toArray 28)) (.cells (tdc m).toArray 28) (.cells (tdc z24q).toArray 28) 28 (tdc z24q); rwa [World.size_alloc] at this)
  have B0 := hide_ ((below3 w (.cells (tdc l).toArray 28) (.cells (tdc m).toArray 28) (.cells (tdc z24q).toArray 28)).alloc (by simp; omega) (.cells (tdc z24q).toArray 28))
  have k0 : mapK t 0 = z24q := by simp [mapK, z24q]
  unfold cv at *
  obtain ⟨hz0, -⟩ := zero_of_info zC'
  go_enter Try.func24, Try.ntmps24
  go_wp2_with (first | (refine wpList_storeA rfl (.tmp 6) (.tmp 10) rfl (w.heap.size + 1 + 1 + 1) (by simp [Act.eval, Act.put]) (tdc z24q) (tdc z24q) rfl (szC z24q_len) (tdc_one _) (by simp [Act.eval, Act.put]) Y0.out ?_))
  have A1 := hide_ (A0.out.row_far (f := w.heap.size + 1 + 1 + 1) (tdc z24q).toArray (by omega))
  have C1 := hide_ (C0.out.row_far (f := w.heap.size + 1 + 1 + 1) (tdc z24q).toArray (by omega))
  have Z1 := hide_ (Z0.out.row_far (f := w.heap.size + 1 + 1 + 1) (tdc z24q).toArray (by omega))
  have Y1 := hide_ (Y0.out.row (cs' := tdc z24q))
  have B1 := B0.out.trans (below_row _ (w.heap.size + 1 + 1 + 1) _ (tdc z24q).toArray (by omega))
  clear A0 C0 Z0 Y0 B0
  try simp only [Act.put]
  generalize ((((w.alloc (.cells (tdc l).toArray 28)).alloc (.cells (tdc m).toArray 28)).alloc (.cells (tdc z24q).toArray 28)).alloc (.cells (tdc z24q).toArray 28)).setRow (w.heap.size + 1 + 1 + 1) (tdc z24q).toArray = W at *
  go_loopw [7, 8, 9] (fun i _ _ wr => ∃ j : Nat, j ≤ 24 ∧ i = .int .i64 (j : Int) ∧ Hid (allB p j = true) ∧ Hid (AB wr w.heap.size 28 (tdc l)) ∧ Hid (AB wr (w.heap.size + 1) 28 (tdc m)) ∧ Hid (AB wr (w.heap.size + 1 + 1 + 1) 28 (tdc (mapK t j))) ∧ Hid (AB wr (w.heap.size + 1 + 1) 28 (tdc z24q)) ∧ Below w.heap.size w wr) (fun i _ _ _ => 24 - (intOf i).toNat)
  case atStart => exact ⟨0, by omega, rfl, hide_ rfl, A1, C1, by rw [k0]; exact Y1, Z1, B1⟩
  case round =>
    obtain ⟨j, hj, rfl, HP, HA, HC, HY, HZ, hb⟩ := hrel
    have hw1 := HY.out.lt
    by_cases hlt : j < 24
    · have hlt' : (j : Int) < 24 := by omega
      have hj0 : (0 : Int) ≤ (j : Int) := by omega
      obtain ⟨a, b, c, d, e1, h1, h2, h3, h4⟩ := HL.out.get hlt
      obtain ⟨a2, b2, c2, d2, e2, i1, i2, i3, i4⟩ := HM.out.get hlt
      have q := hide_ (fun w => rtmeet_ok a b c d a2 b2 c2 d2 w h1 h2 h3 h4 i1 i2 i3 i4)
      have HQ := hide_ (mapK_at t j hlt)
      have HS := mapK_set t j hlt
      have eT : t j = (mz (mok a b c d a2 b2 c2 d2) (a &&& c ||| a2 &&& c2), mz (mok a b c d a2 b2 c2 d2) (b &&& d ||| b2 &&& d2), mz (mok a b c d a2 b2 c2 d2) (c ||| c2), mz (mok a b c d a2 b2 c2 d2) (d ||| d2)) := by rw [← HTT.out j, cq_at e1, cq_at e2]; rfl
      have eP : p j = mok a b c d a2 b2 c2 d2 := by rw [← HPP.out j, cq_at e1, cq_at e2]; rfl
      rw [eT] at HS
      have HS := hide_ HS
      clear eT
      obtain ⟨o0, o1, o2, o3, -⟩ := HA.out.quad e1
      obtain ⟨o4, o5, o6, o7, -⟩ := HC.out.quad e2
      generalize mz (mok a b c d a2 b2 c2 d2) (a &&& c ||| a2 &&& c2) = m1 at *
      generalize mz (mok a b c d a2 b2 c2 d2) (b &&& d ||| b2 &&& d2) = m2 at *
      generalize mz (mok a b c d a2 b2 c2 d2) (c ||| c2) = m3 at *
      generalize mz (mok a b c d a2 b2 c2 d2) (d ||| d2) = m4 at *
      generalize mok a b c d a2 b2 c2 d2 = z at *
      have EP := hide_ eP
      clear eP e1 e2 h1 h2 h3 h4 i1 i2 i3 i4
      unfold td at q
      go_wp2_with fail
      go_region_held3 (fun w' => w'.cell? ⟨w.heap.size, j * 4, none⟩ = some (.int .u64 (a : Int)) ∧ w'.cell? ⟨w.heap.size, j * 4 + 1, none⟩ = some (.int .u64 (b : Int)) ∧ w'.cell? ⟨w.heap.size, j * 4 + 2, none⟩ = some (.int .u64 (c : Int)) ∧ w'.cell? ⟨w.heap.size, j * 4 + 3, none⟩ = some (.int .u64 (d : Int)) ∧ w'.cell? ⟨w.heap.size + 1, j * 4, none⟩ = some (.int .u64 (a2 : Int)) ∧ w'.cell? ⟨w.heap.size + 1, j * 4 + 1, none⟩ = some (.int .u64 (b2 : Int)) ∧ w'.cell? ⟨w.heap.size + 1, j * 4 + 2, none⟩ = some (.int .u64 (c2 : Int)) ∧ w'.cell? ⟨w.heap.size + 1, j * 4 + 3, none⟩ = some (.int .u64 (d2 : Int)) ∧ Below wr.heap.size wr w')
        (first | (with_reducible exact keepA8 (by assumption) (by assumption)) | (with_reducible exact keepA8 (below1 _ _) (by assumption)) | (with_reducible exact keepA8a (by assumption) (by omega) (by dsimp only; omega) (by dsimp only; omega) (by dsimp only; omega) (by dsimp only; omega) (by dsimp only; omega) (by dsimp only; omega) (by dsimp only; omega) (by dsimp only; omega)) | (with_reducible exact keepA8s (by assumption) (by omega) (by dsimp only; omega) (by dsimp only; omega) (by dsimp only; omega) (by dsimp only; omega) (by dsimp only; omega) (by dsimp only; omega) (by dsimp only; omega) (by dsimp only; omega)) | (exact ⟨o0, o1, o2, o3, o4, o5, o6, o7, (Below.refl _ _).drew⟩) | (exact ⟨o0, o1, o2, o3, o4, o5, o6, o7, Below.refl _ _⟩))
        (first | (go_at_call 41; refine (q.out _).mono ?_; rintro e w4 ⟨rfl, b4⟩; have s4 : wr.heap.size ≤ w4.heap.size := (by have := b4.size; simp at this; omega); first | (have NB : AB w4 wr.heap.size 26 [.int .u64 (0 : Int), .int .u64 (0 : Int), .int .u64 (0 : Int), .int .u64 (0 : Int)] := (AB.at0 wr.drew 26 [.int .u64 (0 : Int), .int .u64 (0 : Int), .int .u64 (0 : Int), .int .u64 (0 : Int)]).later b4; obtain ⟨z0, z1, z2, z3, y0, y1, y2, y3⟩ := NB.four; have NB := hide_ NB) | skip))
      · rename_i hH
        have kk := hH.2.2.2.2.2.2.2.2
        clear hH
        have TB := hide_ (AB.at0 w4 26 [.int .u64 (m1 : Int), .int .u64 (m2 : Int), .int .u64 (m3 : Int), .int .u64 (m4 : Int)])
        generalize w4.alloc (.cells #[.int .u64 (m1 : Int), .int .u64 (m2 : Int), .int .u64 (m3 : Int), .int .u64 (m4 : Int)] 26) = V at *
        generalize w4.heap.size = G at *
        clear b4 o0 o1 o2 o3 o4 o5 o6 o7
        cases z
        · have HE := hide_ (HF.out (allB_false hlt EP.out))
          go_wp2_with (first | (refine wpList_storeA rfl (.tmp 4) (.tmp 27) rfl (w.heap.size + 1 + 1) (by simp [Act.eval, Act.put]) (tdc z24q) (tdc z24q) rfl (szC z24q_len) (tdc_one _) (by simp [Act.eval, Act.put]) (HZ.out.later kk) ?_))
          exact bodyPost_ret (results_A2 Try.underlying28 Try.results24 _ _ (w.heap.size + 1 + 1) (tdc z24q) (.bool false) (szC z24q_len) rfl rfl (HZ.out.later kk).row) rfl ⟨congrArg _ HE.out, (hb.trans (kk.mono hb.size)).trans (below_row _ _ _ _ (by omega))⟩
        · have HE : Hid (allB p (j + 1) = true) := hide_ (by rw [allB_succ, HP.out, EP.out]; rfl)
          obtain ⟨t0, t1, t2, t3, -⟩ := TB.out.four
          obtain ⟨s0, s1, s2, s3, r0, r1, r2, r3⟩ := (HY.out.later kk).quad HQ.out
          have HA1 := hide_ (HA.out.later kk)
          have HC1 := hide_ (HC.out.later kk)
          have HY1 := hide_ (HY.out.later kk)
          have HZ1 := hide_ (HZ.out.later kk)
          have hb1 := hb.trans (kk.mono hb.size)
          clear HA HC HY HZ
          go_wp2_with fail
          go_roundw
          case rel => exact ⟨j + 1, by omega, by go_num, HE, hide_ ((((HA1.out.far _ (by omega)).far _ (by omega)).far _ (by omega)).far _ (by omega)), hide_ ((((HC1.out.far _ (by omega)).far _ (by omega)).far _ (by omega)).far _ (by omega)), by rw [← HS.out]; exact hide_ (HY1.out.setq j m1 m2 m3 m4), hide_ ((((HZ1.out.far _ (by omega)).far _ (by omega)).far _ (by omega)).far _ (by omega)), below_fillq hb1 (by omega) _ _ _ _ _ _ _ _⟩
          case measure => simp [intOf]; omega
      · rename_i hH
        have kk := hH.2.2.2.2.2.2.2.2
        clear hH
        have TB := hide_ (NB.out.room.fill (.int .u64 (m1 : Int)) (.int .u64 (m2 : Int)) (.int .u64 (m3 : Int)) (.int .u64 (m4 : Int)))
        generalize (((w4.setCell ⟨wr.heap.size, 0, none⟩ (.int .u64 (m1 : Int))).setCell ⟨wr.heap.size, 1, none⟩ (.int .u64 (m2 : Int))).setCell ⟨wr.heap.size, 2, none⟩ (.int .u64 (m3 : Int))).setCell ⟨wr.heap.size, 3, none⟩ (.int .u64 (m4 : Int)) = V at *
        clear b4 o0 o1 o2 o3 o4 o5 o6 o7 z0 z1 z2 z3 y0 y1 y2 y3 NB
        cases z
        · have HE := hide_ (HF.out (allB_false hlt EP.out))
          go_wp2_with (first | (refine wpList_storeA rfl (.tmp 4) (.tmp 27) rfl (w.heap.size + 1 + 1) (by simp [Act.eval, Act.put]) (tdc z24q) (tdc z24q) rfl (szC z24q_len) (tdc_one _) (by simp [Act.eval, Act.put]) (HZ.out.later kk) ?_))
          exact bodyPost_ret (results_A2 Try.underlying28 Try.results24 _ _ (w.heap.size + 1 + 1) (tdc z24q) (.bool false) (szC z24q_len) rfl rfl (HZ.out.later kk).row) rfl ⟨congrArg _ HE.out, (hb.trans (kk.mono hb.size)).trans (below_row _ _ _ _ (by omega))⟩
        · have HE : Hid (allB p (j + 1) = true) := hide_ (by rw [allB_succ, HP.out, EP.out]; rfl)
          obtain ⟨t0, t1, t2, t3, -⟩ := TB.out.four
          obtain ⟨s0, s1, s2, s3, r0, r1, r2, r3⟩ := (HY.out.later kk).quad HQ.out
          have HA1 := hide_ (HA.out.later kk)
          have HC1 := hide_ (HC.out.later kk)
          have HY1 := hide_ (HY.out.later kk)
          have HZ1 := hide_ (HZ.out.later kk)
          have hb1 := hb.trans (kk.mono hb.size)
          clear HA HC HY HZ
          go_wp2_with fail
          go_roundw
          case rel => exact ⟨j + 1, by omega, by go_num, HE, hide_ ((((HA1.out.far _ (by omega)).far _ (by omega)).far _ (by omega)).far _ (by omega)), hide_ ((((HC1.out.far _ (by omega)).far _ (by omega)).far _ (by omega)).far _ (by omega)), by rw [← HS.out]; exact hide_ (HY1.out.setq j m1 m2 m3 m4), hide_ ((((HZ1.out.far _ (by omega)).far _ (by omega)).far _ (by omega)).far _ (by omega)), below_fillq hb1 (by omega) _ _ _ _ _ _ _ _⟩
          case measure => simp [intOf]; omega
    · have hlt' : ¬ (j : Int) < 24 := by omega
      have e : j = 24 := by omega
      subst e
      have HE := hide_ (HT.out HP.out)
      go_wp2_with (first | (refine wpList_loadA Try.underlying28 rfl (.tmp 6) rfl (w.heap.size + 1 + 1 + 1) (by simp [Act.eval, Act.put]) (tdc (mapK t 24)) (szC (mapK_len t 24 (Nat.le_refl _))) HY.out ?_) | (refine wpList_storeA rfl (.tmp 4) (.tmp 31) rfl (w.heap.size + 1 + 1) (by simp [Act.eval, Act.put]) (tdc z24q) (tdc (mapK t 24)) (by rw [tdc_length, tdc_length, mapK_len t 24 (Nat.le_refl _), z24q_len]) (szC (mapK_len t 24 (Nat.le_refl _))) (tdc_one _) (by simp [Act.eval, Act.put]) HZ.out ?_))
      exact bodyPost_ret (results_A2 Try.underlying28 Try.results24 _ _ (w.heap.size + 1 + 1) (tdc (mapK t 24)) (.bool true) (szC (mapK_len t 24 (Nat.le_refl _))) rfl rfl HZ.out.row) rfl ⟨congrArg _ HE.out, hb.trans (below_row _ _ _ _ (by omega))⟩

end Go.Proofs.Ytbdbehdgpmfelaa
