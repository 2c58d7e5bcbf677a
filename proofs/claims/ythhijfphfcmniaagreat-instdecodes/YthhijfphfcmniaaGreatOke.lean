import Derived.Test.YthhijfphfcmniaaGreatOae
import Derived.Test.YthhijfphfcmniaaGreatOge
import Derived.Test.YthhijfphfcmniaaGreatXhe
import Derived.Deep.RegionHeld3
import Derived.Deep.RegionWith
import Derived.Deep.MidRow
import Derived.Deep.Cut
set_option maxRecDepth 100000
set_option maxHeartbeats 8000000
set_option linter.unusedVariables false
set_option linter.unusedSimpArgs false
namespace Go.Proofs.YthhijfphfcmniaaGreat
open Go Go.RowKit
theorem AB.set6 {w : World} {g : Nat} {ty : TypeId} {a b c d e f : Value} (h : AB w g ty [a, b, c, d, e, f]) (x0 x1 x2 x3 x4 x5 : Value) : AB ((((((w.setCell ⟨g, 0, none⟩ (x0)).setCell ⟨g, 1, none⟩ (x1)).setCell ⟨g, 2, none⟩ (x2)).setCell ⟨g, 3, none⟩ (x3)).setCell ⟨g, 4, none⟩ (x4)).setCell ⟨g, 5, none⟩ (x5)) g ty [x0, x1, x2, x3, x4, x5] := (((((h.set (j := 0) x0).set (j := 1) x1).set (j := 2) x2).set (j := 3) x3).set (j := 4) x4).set (j := 5) x5
theorem AB.far6 {w : World} {g h : Nat} {ty : TypeId} {cs : List Value} (k : AB w g ty cs) (hne : g ≠ h) (x0 x1 x2 x3 x4 x5 : Value) : AB ((((((w.setCell ⟨h, 0, none⟩ (x0)).setCell ⟨h, 1, none⟩ (x1)).setCell ⟨h, 2, none⟩ (x2)).setCell ⟨h, 3, none⟩ (x3)).setCell ⟨h, 4, none⟩ (x4)).setCell ⟨h, 5, none⟩ (x5)) g ty cs := (((((k.far x0 hne).far x1 hne).far x2 hne).far x3 hne).far x4 hne).far x5 hne
theorem AB.far3 {w : World} {g h : Nat} {ty : TypeId} {cs : List Value} (k : AB w g ty cs) (hne : g ≠ h) (v0 v1 v2 : Value) : AB (((w.setCell ⟨h, 0, none⟩ (v0)).setCell ⟨h, 1, none⟩ (v1)).setCell ⟨h, 2, none⟩ (v2)) g ty cs := ((k.far v0 hne).far v1 hne).far v2 hne
theorem below_set6 {w0 w : World} {g n : Nat} (h : Below n w0 w) (hg : n ≤ g) (x0 x1 x2 x3 x4 x5 : Value) : Below n w0 ((((((w.setCell ⟨g, 0, none⟩ (x0)).setCell ⟨g, 1, none⟩ (x1)).setCell ⟨g, 2, none⟩ (x2)).setCell ⟨g, 3, none⟩ (x3)).setCell ⟨g, 4, none⟩ (x4)).setCell ⟨g, 5, none⟩ (x5)) := (((((h.setCell hg x0).setCell hg x1).setCell hg x2).setCell hg x3).setCell hg x4).setCell hg x5
def headR : List Int → Int × Int × Bool
  | b0 :: b1 :: b2 :: b3 :: r =>
    if (r.length : Int) < b3 then (1, 0, false) else
    match fidx (b2 / 2) with
    | none => (6, 0, false)
    | some j =>
      if b0 * 256 + b1 = 32768 then
        (if (decide (b2 % 2 = 1) && !(fmask (j : Int))) = true then (8, 0, false) else if b3 = foll (j : Int) (decide (b2 % 2 = 1)) then (0, (j : Int), decide (b2 % 2 = 1)) else (1, 0, false))
      else (6, 0, false)
  | _ => (1, 0, false)
theorem headR_short {l : List Int} (h : l.length < 4) : headR l = (1, 0, false) := by
  match l, h with
  | [], _ => rfl
  | [_], _ => rfl
  | [_, _], _ => rfl
  | [_, _, _], _ => rfl
  | _ :: _ :: _ :: _ :: _, h => exact absurd h (by simp)
theorem four_of {l : List Int} (h : ¬ l.length < 4) : ∃ b0 b1 b2 b3 r, l = b0 :: b1 :: b2 :: b3 :: r := by
  match l, h with
  | [], h => simp at h
  | [_], h => simp at h
  | [_, _], h => simp at h
  | [_, _, _], h => simp at h
  | a :: b :: c :: d :: r, _ => exact ⟨a, b, c, d, r, rfl⟩
theorem fidx_lt {id : Int} {j : Nat} (h : fidx id = some j) : j < 24 ∧ fid (j : Int) = id := by
  unfold fidx at h
  have h1 := List.find?_some h
  have h2 := List.mem_of_find?_eq_some h
  exact ⟨List.mem_range.1 h2, by simpa using h1⟩
def headV (l : List Int) : Value := .tuple #[ov (headR l).2.1 (headR l).2.2 0 0 0 0, fcode (headR l).1]
theorem readHead_any (v : Value) (l : List Int) (w : World) (hB : Bytes w v l) :
    Calls Tryz.prog 177 #[v] w fun e w' => e = .returned (headV l) ∧ Below w.heap.size w w' := by
  obtain ⟨ao, cap, rfl, hc1, hc2, hiB, hnone, hcell⟩ := hB
  have hB : Bytes w (.slice ao l.length cap) l := ⟨ao, cap, rfl, hc1, hc2, hiB, hnone, hcell⟩
  clear hnone hcell
  have O0 := h_ ((AB.at0 w 59 [.int .i64 0, .bool false, .int .u64 0, .int .u64 0, .int .u64 0, .int .u64 0]).alloc (.cells #[.bool false, .int .i64 0, .int .i64 0] 44))
  have F0 := h_ (AB.at1 w (.cells #[.int .i64 0, .bool false, .int .u64 0, .int .u64 0, .int .u64 0, .int .u64 0] 59) 44 [.bool false, .int .i64 0, .int .i64 0])
  have B0 := h_ (below2 w (.cells #[.int .i64 0, .bool false, .int .u64 0, .int .u64 0, .int .u64 0, .int .u64 0] 59) (.cells #[.bool false, .int .i64 0, .int .i64 0] 44))
  have qr := h_ (fun k w => refuse_any k w)
  unfold fv at qr
  obtain ⟨R, hR⟩ : ∃ R, headV l = R := ⟨_, rfl⟩
  rw [hR]
  have HR := h_ hR
  clear hR
  unfold maxLen at hc2
  by_cases h4 : l.length < 4
  · have e : Hid (Value.tuple #[.agg #[.int .i64 0, .bool false, .int .u64 0, .int .u64 0, .int .u64 0, .int .u64 0], .agg #[.bool true, .int .i64 4, .int .i64 1]] = R) := h_ (by rw [← HR.out, headV, headR_short h4]; rfl)
    generalize l.length = n at *
    have h4' : (n : Int) < 4 := by omega
    clear hB hiB
    go_enter Tryz.func177, Tryz.ntmps177
    go_wp2_with (first | (go_at_call 175; refine (qr.out _ _).mono ?_; rintro e w1 ⟨rfl, b1⟩; have k1 := b1; obtain ⟨s0, s1, s2, s3, s4, s5, s6, s7, s8, s9, s10, s11⟩ := (O0.out.later k1).six; obtain ⟨t0, t1, t2, t3, t4, t5⟩ := ((F0.out.later k1).far6 (h := w.heap.size) (by omega) (.int .i64 0) (.bool false) (.int .u64 0) (.int .u64 0) (.int .u64 0) (.int .u64 0)).three))
    have ZA := ((O0.out.later k1).set6 (.int .i64 0) (.bool false) (.int .u64 0) (.int .u64 0) (.int .u64 0) (.int .u64 0)).far3 (h := (w.heap.size + 1)) (by omega) (.bool true) (.int .i64 4) (.int .i64 1)
    have ZF := ((F0.out.later k1).far6 (h := w.heap.size) (by omega) (.int .i64 0) (.bool false) (.int .u64 0) (.int .u64 0) (.int .u64 0) (.int .u64 0)).set3 (.bool true) (.int .i64 4) (.int .i64 1)
    obtain ⟨h0, h1, h2, h3, h4, h5, -⟩ := ZA.six
    obtain ⟨h6, h7, h8, -⟩ := ZF.three
    exact bodyPost_ret (v := .tuple #[.agg #[.int .i64 0, .bool false, .int .u64 0, .int .u64 0, .int .u64 0, .int .u64 0], .agg #[.bool true, .int .i64 4, .int .i64 1]]) (by simp [results, Tryz.results177, go_sem, h0, h1, h2, h3, h4, h5, h6, h7, h8]) rfl ⟨congrArg _ e.out, below_set3 (g := (w.heap.size + 1)) (below_set6 (g := w.heap.size) (B0.out.trans (k1.mono B0.out.size)) (by omega) _ _ _ _ _ _) (by omega) _ _ _⟩
  · obtain ⟨z0, z1, z2, z3, r, rfl⟩ := four_of h4
    obtain ⟨-, -, -, hat⟩ := hB.at
    obtain ⟨bb, off, rfl, d0⟩ := hat 0 z0 rfl
    obtain ⟨bb', off', e', d1⟩ := hat 1 z1 rfl
    cases e'
    obtain ⟨bb', off', e', d2⟩ := hat 2 z2 rfl
    cases e'
    obtain ⟨bb', off', e', d3⟩ := hat 3 z3 rfl
    cases e'
    have i0 := hiB z0 (by simp)
    have i1 := hiB z1 (by simp)
    have i2 := hiB z2 (by simp)
    have i3 := hiB z3 (by simp)
    have hlen : (z0 :: z1 :: z2 :: z3 :: r).length = r.length + 4 := by simp
    have g0 : Hid (∀ W, Below ((w.alloc (.cells #[.int .i64 0, .bool false, .int .u64 0, .int .u64 0, .int .u64 0, .int .u64 0] 59)).alloc (.cells #[.bool false, .int .i64 0, .int .i64 0] 44)).heap.size ((w.alloc (.cells #[.int .i64 0, .bool false, .int .u64 0, .int .u64 0, .int .u64 0, .int .u64 0] 59)).alloc (.cells #[.bool false, .int .i64 0, .int .i64 0] 44)) W → Calls Tryz.prog 89 #[.slice (some ⟨bb, off, none⟩) (r.length + 4) cap, .int .i64 0, .int .i64 2] W fun e W' => e = .returned (.tuple #[.int .i64 (z0 * 256 + z1), .int .i64 0]) ∧ Below W.heap.size W W') := h_ (fun W hW => get_ok2 bb off (r.length + 4) cap 0 z0 z1 W i0 i1 (by omega) (by omega) (by unfold maxLen; omega) (cell_later hW (cell_later B0.out d0)) (cell_later hW (cell_later B0.out d1)))
    have g2 : Hid (∀ W, Below ((w.alloc (.cells #[.int .i64 0, .bool false, .int .u64 0, .int .u64 0, .int .u64 0, .int .u64 0] 59)).alloc (.cells #[.bool false, .int .i64 0, .int .i64 0] 44)).heap.size ((w.alloc (.cells #[.int .i64 0, .bool false, .int .u64 0, .int .u64 0, .int .u64 0, .int .u64 0] 59)).alloc (.cells #[.bool false, .int .i64 0, .int .i64 0] 44)) W → Calls Tryz.prog 89 #[.slice (some ⟨bb, off, none⟩) (r.length + 4) cap, .int .i64 2, .int .i64 1] W fun e W' => e = .returned (.tuple #[.int .i64 z2, .int .i64 0]) ∧ Below W.heap.size W W') := h_ (fun W hW => get_ok1 bb off (r.length + 4) cap 2 z2 W i2 (by omega) (by omega) (by unfold maxLen; omega) (cell_later hW (cell_later B0.out d2)))
    have g3 : Hid (∀ W, Below ((w.alloc (.cells #[.int .i64 0, .bool false, .int .u64 0, .int .u64 0, .int .u64 0, .int .u64 0] 59)).alloc (.cells #[.bool false, .int .i64 0, .int .i64 0] 44)).heap.size ((w.alloc (.cells #[.int .i64 0, .bool false, .int .u64 0, .int .u64 0, .int .u64 0, .int .u64 0] 59)).alloc (.cells #[.bool false, .int .i64 0, .int .i64 0] 44)) W → Calls Tryz.prog 89 #[.slice (some ⟨bb, off, none⟩) (r.length + 4) cap, .int .i64 3, .int .i64 1] W fun e W' => e = .returned (.tuple #[.int .i64 z3, .int .i64 0]) ∧ Below W.heap.size W W') := h_ (fun W hW => get_ok1 bb off (r.length + 4) cap 3 z3 W i3 (by omega) (by omega) (by unfold maxLen; omega) (cell_later hW (cell_later B0.out d3)))
    have qi := fun w => index_any (z2 / 2) w
    have HE : Hid (headR (z0 :: z1 :: z2 :: z3 :: r) = if (r.length : Int) < z3 then ((1 : Int), (0 : Int), false) else
      match fidx (z2 / 2) with
      | none => (6, 0, false)
      | some j =>
        if z0 * 256 + z1 = 32768 then
          (if (decide (z2 % 2 = 1) && !(fmask (j : Int))) = true then (8, 0, false) else if z3 = foll (j : Int) (decide (z2 % 2 = 1)) then (0, (j : Int), decide (z2 % 2 = 1)) else (1, 0, false))
        else (6, 0, false)) := h_ rfl
    rw [hlen] at hc1 ⊢
    clear hat hB d0 d1 d2 d3 hlen h4 hiB
    have hq1 : Int.tdiv z2 2 = z2 / 2 := Int.tdiv_eq_ediv_of_nonneg i2.1
    have hq2 : Int.tmod z2 2 = z2 % 2 := Int.tmod_eq_emod_of_nonneg i2.1
    have hq3 : IntKind.i64.wrap (z2 / 2) = z2 / 2 := by rw [IntKind.wrap_i64]; omega
    have hq4 : IntKind.i64.wrap (z2 % 2) = z2 % 2 := by rw [IntKind.wrap_i64]; omega
    have hn4 : ¬ (((r.length + 4 : Nat) : Int) < 4) := by omega
    have hq5 : ((r.length + 4 : Nat) : Int) - 4 = (r.length : Int) := by omega
    have hq6 : IntKind.i64.wrap (r.length : Int) = (r.length : Int) := by rw [IntKind.wrap_i64]; omega
    generalize hfst : z0 * 256 + z1 = fst at *
    clear hfst i0 i1
    generalize r.length = n at *
    generalize hz2h : z2 / 2 = kh at *
    unfold headV at HR
    by_cases hs : (n : Int) < z3
    · have e : Hid (Value.tuple #[.agg #[.int .i64 0, .bool false, .int .u64 0, .int .u64 0, .int .u64 0, .int .u64 0], .agg #[.bool true, .int .i64 4, .int .i64 1]] = R) := h_ (by rw [← HR.out, HE.out, if_pos hs]; rfl)
      go_enter Tryz.func177, Tryz.ntmps177
      go_wp2_with (first | (go_at_call_of 89 (Value.int IntKind.i64 0); refine (g0.out _ (Below.refl _ _)).mono ?_; rintro e w1 ⟨rfl, k1⟩) | (go_at_call_of 89 (Value.int IntKind.i64 3); refine (g3.out _ k2).mono ?_; rintro e w3 ⟨rfl, b3⟩; have k3 := k2.trans (b3.mono k2.size)) | (go_at_call_of 89 (Value.int IntKind.i64 2); refine (g2.out _ k1).mono ?_; rintro e w2 ⟨rfl, b2⟩; have k2 := k1.trans (b2.mono k1.size)) | (go_at_call 175; refine (qr.out _ _).mono ?_; rintro e w5 ⟨rfl, b5⟩; have k5 := k3.trans (b5.mono k3.size); obtain ⟨s0, s1, s2, s3, s4, s5, s6, s7, s8, s9, s10, s11⟩ := (O0.out.later k5).six; obtain ⟨t0, t1, t2, t3, t4, t5⟩ := ((F0.out.later k5).far6 (h := w.heap.size) (by omega) (.int .i64 0) (.bool false) (.int .u64 0) (.int .u64 0) (.int .u64 0) (.int .u64 0)).three))
      have ZA := ((O0.out.later k5).set6 (.int .i64 0) (.bool false) (.int .u64 0) (.int .u64 0) (.int .u64 0) (.int .u64 0)).far3 (h := (w.heap.size + 1)) (by omega) (.bool true) (.int .i64 4) (.int .i64 1)
      have ZF := ((F0.out.later k5).far6 (h := w.heap.size) (by omega) (.int .i64 0) (.bool false) (.int .u64 0) (.int .u64 0) (.int .u64 0) (.int .u64 0)).set3 (.bool true) (.int .i64 4) (.int .i64 1)
      obtain ⟨h0, h1, h2, h3, h4, h5, -⟩ := ZA.six
      obtain ⟨h6, h7, h8, -⟩ := ZF.three
      exact bodyPost_ret (v := .tuple #[.agg #[.int .i64 0, .bool false, .int .u64 0, .int .u64 0, .int .u64 0, .int .u64 0], .agg #[.bool true, .int .i64 4, .int .i64 1]]) (by simp [results, Tryz.results177, go_sem, h0, h1, h2, h3, h4, h5, h6, h7, h8]) rfl ⟨congrArg _ e.out, below_set3 (g := (w.heap.size + 1)) (below_set6 (g := w.heap.size) (B0.out.trans (k5.mono B0.out.size)) (by omega) _ _ _ _ _ _) (by omega) _ _ _⟩
    · rw [if_neg hs] at HE
      unfold idxt at qi
      cases hfi : fidx kh with
      | none =>
        rw [hfi] at qi HE
        have qi := h_ qi
        have e : Hid (Value.tuple #[.agg #[.int .i64 0, .bool false, .int .u64 0, .int .u64 0, .int .u64 0, .int .u64 0], .agg #[.bool true, .int .i64 4, .int .i64 6]] = R) := h_ (by rw [← HR.out, HE.out]; rfl)
        go_enter Tryz.func177, Tryz.ntmps177
        go_wp2_with (first | (go_at_call_of 89 (Value.int IntKind.i64 0); refine (g0.out _ (Below.refl _ _)).mono ?_; rintro e w1 ⟨rfl, k1⟩) | (go_at_call_of 89 (Value.int IntKind.i64 3); refine (g3.out _ k2).mono ?_; rintro e w3 ⟨rfl, b3⟩; have k3 := k2.trans (b3.mono k2.size)) | (go_at_call_of 89 (Value.int IntKind.i64 2); refine (g2.out _ k1).mono ?_; rintro e w2 ⟨rfl, b2⟩; have k2 := k1.trans (b2.mono k1.size)) | (go_at_call 181; refine (qi.out _).mono ?_; rintro e w4 ⟨rfl, b4⟩; have k4 := k3.trans (b4.mono k3.size)) | (go_at_call 175; refine (qr.out _ _).mono ?_; rintro e w5 ⟨rfl, b5⟩; have k5 := k4.trans (b5.mono k4.size); obtain ⟨s0, s1, s2, s3, s4, s5, s6, s7, s8, s9, s10, s11⟩ := (O0.out.later k5).six; obtain ⟨t0, t1, t2, t3, t4, t5⟩ := ((F0.out.later k5).far6 (h := w.heap.size) (by omega) (.int .i64 0) (.bool false) (.int .u64 0) (.int .u64 0) (.int .u64 0) (.int .u64 0)).three))
        have ZA := ((O0.out.later k5).set6 (.int .i64 0) (.bool false) (.int .u64 0) (.int .u64 0) (.int .u64 0) (.int .u64 0)).far3 (h := (w.heap.size + 1)) (by omega) (.bool true) (.int .i64 4) (.int .i64 6)
        have ZF := ((F0.out.later k5).far6 (h := w.heap.size) (by omega) (.int .i64 0) (.bool false) (.int .u64 0) (.int .u64 0) (.int .u64 0) (.int .u64 0)).set3 (.bool true) (.int .i64 4) (.int .i64 6)
        obtain ⟨h0, h1, h2, h3, h4, h5, -⟩ := ZA.six
        obtain ⟨h6, h7, h8, -⟩ := ZF.three
        exact bodyPost_ret (v := .tuple #[.agg #[.int .i64 0, .bool false, .int .u64 0, .int .u64 0, .int .u64 0, .int .u64 0], .agg #[.bool true, .int .i64 4, .int .i64 6]]) (by simp [results, Tryz.results177, go_sem, h0, h1, h2, h3, h4, h5, h6, h7, h8]) rfl ⟨congrArg _ e.out, below_set3 (g := (w.heap.size + 1)) (below_set6 (g := w.heap.size) (B0.out.trans (k5.mono B0.out.size)) (by omega) _ _ _ _ _ _) (by omega) _ _ _⟩
      | some j =>
        rw [hfi] at qi HE
        have qi := h_ qi
        dsimp only at HE
        by_cases hf1 : fst = 32768
        · rw [if_pos hf1] at HE
          subst hf1
          have qm := h_ (fun w => fmask_any (j : Int) w)
          by_cases hm : z2 % 2 = 1
          · have hmd : decide (z2 % 2 = 1) = true := decide_eq_true hm
            rw [hmd] at HE
            have qf : Hid (∀ w, Calls Tryz.prog 164 #[ov (j : Int) true 0 0 0 0] w fun e w' => e = .returned (.int .i64 (foll (j : Int) true)) ∧ Below w.heap.size w w') := h_ (fun w => follow_any (j : Int) true 0 0 0 0 w)
            cases hma : fmask (j : Int)
            · rw [hma] at qm HE
              have e : Hid (Value.tuple #[.agg #[.int .i64 0, .bool false, .int .u64 0, .int .u64 0, .int .u64 0, .int .u64 0], .agg #[.bool true, .int .i64 4, .int .i64 8]] = R) := h_ (by rw [← HR.out, HE.out]; rfl)
              go_enter Tryz.func177, Tryz.ntmps177
              go_wp2_with (first | (go_at_call_of 89 (Value.int IntKind.i64 0); refine (g0.out _ (Below.refl _ _)).mono ?_; rintro e w1 ⟨rfl, k1⟩) | (go_at_call_of 89 (Value.int IntKind.i64 3); refine (g3.out _ k2).mono ?_; rintro e w3 ⟨rfl, b3⟩; have k3 := k2.trans (b3.mono k2.size)) | (go_at_call_of 89 (Value.int IntKind.i64 2); refine (g2.out _ k1).mono ?_; rintro e w2 ⟨rfl, b2⟩; have k2 := k1.trans (b2.mono k1.size)) | (go_at_call 181; refine (qi.out _).mono ?_; rintro e w4 ⟨rfl, b4⟩; have k4 := k3.trans (b4.mono k3.size)) | (go_at_call 162; refine (qm.out _).mono ?_; rintro e w5 ⟨rfl, b5⟩; have k5 := k4.trans (((below1 w4 (.cells #[.int .i64 (j : Int), .bool true, .int .u64 (0 : Int), .int .u64 (0 : Int), .int .u64 (0 : Int), .int .u64 (0 : Int)] 59)).trans (b5.mono (by simp))).mono k4.size)) | (go_at_call 175; refine (qr.out _ _).mono ?_; rintro e w6 ⟨rfl, b6⟩; have k6 := k5.trans (b6.mono k5.size); obtain ⟨s0, s1, s2, s3, s4, s5, s6, s7, s8, s9, s10, s11⟩ := (O0.out.later k6).six; obtain ⟨t0, t1, t2, t3, t4, t5⟩ := ((F0.out.later k6).far6 (h := w.heap.size) (by omega) (.int .i64 0) (.bool false) (.int .u64 0) (.int .u64 0) (.int .u64 0) (.int .u64 0)).three))
              have ZA := ((O0.out.later k6).set6 (.int .i64 0) (.bool false) (.int .u64 0) (.int .u64 0) (.int .u64 0) (.int .u64 0)).far3 (h := (w.heap.size + 1)) (by omega) (.bool true) (.int .i64 4) (.int .i64 8)
              have ZF := ((F0.out.later k6).far6 (h := w.heap.size) (by omega) (.int .i64 0) (.bool false) (.int .u64 0) (.int .u64 0) (.int .u64 0) (.int .u64 0)).set3 (.bool true) (.int .i64 4) (.int .i64 8)
              obtain ⟨h0, h1, h2, h3, h4, h5, -⟩ := ZA.six
              obtain ⟨h6, h7, h8, -⟩ := ZF.three
              exact bodyPost_ret (v := .tuple #[.agg #[.int .i64 0, .bool false, .int .u64 0, .int .u64 0, .int .u64 0, .int .u64 0], .agg #[.bool true, .int .i64 4, .int .i64 8]]) (by simp [results, Tryz.results177, go_sem, h0, h1, h2, h3, h4, h5, h6, h7, h8]) rfl ⟨congrArg _ e.out, below_set3 (g := (w.heap.size + 1)) (below_set6 (g := w.heap.size) (B0.out.trans (k6.mono B0.out.size)) (by omega) _ _ _ _ _ _) (by omega) _ _ _⟩
            · rw [hma] at qm HE
              rw [if_neg (by simp)] at HE
              by_cases hsf : z3 = foll (j : Int) true
              · have e : Hid (Value.tuple #[.agg #[.int .i64 (j : Int), .bool true, .int .u64 (0 : Int), .int .u64 (0 : Int), .int .u64 (0 : Int), .int .u64 (0 : Int)], .agg #[.bool false, .int .i64 0, .int .i64 0]] = R) := h_ (by rw [← HR.out, HE.out, if_pos hsf]; rfl)
                rw [← hsf] at qf
                unfold ov at qf
                go_enter Tryz.func177, Tryz.ntmps177
                go_wp2_with (first | (go_at_call_of 89 (Value.int IntKind.i64 0); refine (g0.out _ (Below.refl _ _)).mono ?_; rintro e w1 ⟨rfl, k1⟩) | (go_at_call_of 89 (Value.int IntKind.i64 3); refine (g3.out _ k2).mono ?_; rintro e w3 ⟨rfl, b3⟩; have k3 := k2.trans (b3.mono k2.size)) | (go_at_call_of 89 (Value.int IntKind.i64 2); refine (g2.out _ k1).mono ?_; rintro e w2 ⟨rfl, b2⟩; have k2 := k1.trans (b2.mono k1.size)) | (go_at_call 181; refine (qi.out _).mono ?_; rintro e w4 ⟨rfl, b4⟩; have k4 := k3.trans (b4.mono k3.size); have k4a := k4.trans ((below1 w4 (.cells #[.int .i64 (j : Int), .bool true, .int .u64 (0 : Int), .int .u64 (0 : Int), .int .u64 (0 : Int), .int .u64 (0 : Int)] 59)).mono k4.size); have N4 := h_ (AB.at0 w4 59 [.int .i64 (j : Int), .bool true, .int .u64 (0 : Int), .int .u64 (0 : Int), .int .u64 (0 : Int), .int .u64 (0 : Int)]); obtain ⟨q0, q1, q2, q3, q4, q5, -⟩ := N4.out.six) | (go_at_call 162; refine (qm.out _).mono ?_; rintro e w5 ⟨rfl, b5⟩; have k5 := k4a.trans (b5.mono k4a.size); have N5 := h_ (N4.out.later b5); obtain ⟨m0, m1, m2, m3, m4, m5, -⟩ := N5.out.six) | (go_at_call 164; refine (qf.out _).mono ?_; rintro e w7 ⟨rfl, b7⟩; have k7 := k5.trans (b7.mono k5.size); have N7 := h_ (N5.out.later b7); obtain ⟨a0, a1, a2, a3, a4, a5, -⟩ := N7.out.six; obtain ⟨s0, s1, s2, s3, s4, s5, s6, s7, s8, s9, s10, s11⟩ := (O0.out.later k7).six; obtain ⟨t0, t1, t2, t3, t4, t5⟩ := ((F0.out.later k7).far6 (h := w.heap.size) (by omega) (.int .i64 (j : Int)) (.bool true) (.int .u64 (0 : Int)) (.int .u64 (0 : Int)) (.int .u64 (0 : Int)) (.int .u64 (0 : Int))).three))
                have ZA := ((O0.out.later k7).set6 (.int .i64 (j : Int)) (.bool true) (.int .u64 (0 : Int)) (.int .u64 (0 : Int)) (.int .u64 (0 : Int)) (.int .u64 (0 : Int))).far3 (h := (w.heap.size + 1)) (by omega) (.bool false) (.int .i64 0) (.int .i64 0)
                have ZF := ((F0.out.later k7).far6 (h := w.heap.size) (by omega) (.int .i64 (j : Int)) (.bool true) (.int .u64 (0 : Int)) (.int .u64 (0 : Int)) (.int .u64 (0 : Int)) (.int .u64 (0 : Int))).set3 (.bool false) (.int .i64 0) (.int .i64 0)
                obtain ⟨h0, h1, h2, h3, h4, h5, -⟩ := ZA.six
                obtain ⟨h6, h7, h8, -⟩ := ZF.three
                exact bodyPost_ret (v := .tuple #[.agg #[.int .i64 (j : Int), .bool true, .int .u64 (0 : Int), .int .u64 (0 : Int), .int .u64 (0 : Int), .int .u64 (0 : Int)], .agg #[.bool false, .int .i64 0, .int .i64 0]]) (by simp [results, Tryz.results177, go_sem, h0, h1, h2, h3, h4, h5, h6, h7, h8]) rfl ⟨congrArg _ e.out, below_set3 (g := (w.heap.size + 1)) (below_set6 (g := w.heap.size) (B0.out.trans (k7.mono B0.out.size)) (by omega) _ _ _ _ _ _) (by omega) _ _ _⟩
              · have e : Hid (Value.tuple #[.agg #[.int .i64 0, .bool false, .int .u64 0, .int .u64 0, .int .u64 0, .int .u64 0], .agg #[.bool true, .int .i64 4, .int .i64 1]] = R) := h_ (by rw [← HR.out, HE.out, if_neg hsf]; rfl)
                unfold ov at qf
                generalize foll (j : Int) true = fl at *
                go_enter Tryz.func177, Tryz.ntmps177
                go_wp2_with (first | (go_at_call_of 89 (Value.int IntKind.i64 0); refine (g0.out _ (Below.refl _ _)).mono ?_; rintro e w1 ⟨rfl, k1⟩) | (go_at_call_of 89 (Value.int IntKind.i64 3); refine (g3.out _ k2).mono ?_; rintro e w3 ⟨rfl, b3⟩; have k3 := k2.trans (b3.mono k2.size)) | (go_at_call_of 89 (Value.int IntKind.i64 2); refine (g2.out _ k1).mono ?_; rintro e w2 ⟨rfl, b2⟩; have k2 := k1.trans (b2.mono k1.size)) | (go_at_call 181; refine (qi.out _).mono ?_; rintro e w4 ⟨rfl, b4⟩; have k4 := k3.trans (b4.mono k3.size); have k4a := k4.trans ((below1 w4 (.cells #[.int .i64 (j : Int), .bool true, .int .u64 (0 : Int), .int .u64 (0 : Int), .int .u64 (0 : Int), .int .u64 (0 : Int)] 59)).mono k4.size); have N4 := h_ (AB.at0 w4 59 [.int .i64 (j : Int), .bool true, .int .u64 (0 : Int), .int .u64 (0 : Int), .int .u64 (0 : Int), .int .u64 (0 : Int)]); obtain ⟨q0, q1, q2, q3, q4, q5, -⟩ := N4.out.six) | (go_at_call 162; refine (qm.out _).mono ?_; rintro e w5 ⟨rfl, b5⟩; have k5 := k4a.trans (b5.mono k4a.size); have N5 := h_ (N4.out.later b5); obtain ⟨m0, m1, m2, m3, m4, m5, -⟩ := N5.out.six) | (go_at_call 164; refine (qf.out _).mono ?_; rintro e w7 ⟨rfl, b7⟩; have k7 := k5.trans (b7.mono k5.size); have N7 := h_ (N5.out.later b7); obtain ⟨a0, a1, a2, a3, a4, a5, -⟩ := N7.out.six; skip) | (go_at_call 175; refine (qr.out _ _).mono ?_; rintro e w8 ⟨rfl, b8⟩; have k8 := k7.trans (b8.mono k7.size); obtain ⟨s0, s1, s2, s3, s4, s5, s6, s7, s8, s9, s10, s11⟩ := (O0.out.later k8).six; obtain ⟨t0, t1, t2, t3, t4, t5⟩ := ((F0.out.later k8).far6 (h := w.heap.size) (by omega) (.int .i64 0) (.bool false) (.int .u64 0) (.int .u64 0) (.int .u64 0) (.int .u64 0)).three))
                have ZA := ((O0.out.later k8).set6 (.int .i64 0) (.bool false) (.int .u64 0) (.int .u64 0) (.int .u64 0) (.int .u64 0)).far3 (h := (w.heap.size + 1)) (by omega) (.bool true) (.int .i64 4) (.int .i64 1)
                have ZF := ((F0.out.later k8).far6 (h := w.heap.size) (by omega) (.int .i64 0) (.bool false) (.int .u64 0) (.int .u64 0) (.int .u64 0) (.int .u64 0)).set3 (.bool true) (.int .i64 4) (.int .i64 1)
                obtain ⟨h0, h1, h2, h3, h4, h5, -⟩ := ZA.six
                obtain ⟨h6, h7, h8, -⟩ := ZF.three
                exact bodyPost_ret (v := .tuple #[.agg #[.int .i64 0, .bool false, .int .u64 0, .int .u64 0, .int .u64 0, .int .u64 0], .agg #[.bool true, .int .i64 4, .int .i64 1]]) (by simp [results, Tryz.results177, go_sem, h0, h1, h2, h3, h4, h5, h6, h7, h8]) rfl ⟨congrArg _ e.out, below_set3 (g := (w.heap.size + 1)) (below_set6 (g := w.heap.size) (B0.out.trans (k8.mono B0.out.size)) (by omega) _ _ _ _ _ _) (by omega) _ _ _⟩
          · have hmd : decide (z2 % 2 = 1) = false := decide_eq_false hm
            rw [hmd] at HE
            have qf : Hid (∀ w, Calls Tryz.prog 164 #[ov (j : Int) false 0 0 0 0] w fun e w' => e = .returned (.int .i64 (foll (j : Int) false)) ∧ Below w.heap.size w w') := h_ (fun w => follow_any (j : Int) false 0 0 0 0 w)
            rw [if_neg (by simp)] at HE
            have hm' : (z2 % 2 == 1) = false := by simpa using hm
            by_cases hsf : z3 = foll (j : Int) false
            · have e : Hid (Value.tuple #[.agg #[.int .i64 (j : Int), .bool false, .int .u64 (0 : Int), .int .u64 (0 : Int), .int .u64 (0 : Int), .int .u64 (0 : Int)], .agg #[.bool false, .int .i64 0, .int .i64 0]] = R) := h_ (by rw [← HR.out, HE.out, if_pos hsf]; rfl)
              rw [← hsf] at qf
              unfold ov at qf
              go_enter Tryz.func177, Tryz.ntmps177
              go_wp2_with (first | (go_at_call_of 89 (Value.int IntKind.i64 0); refine (g0.out _ (Below.refl _ _)).mono ?_; rintro e w1 ⟨rfl, k1⟩) | (go_at_call_of 89 (Value.int IntKind.i64 3); refine (g3.out _ k2).mono ?_; rintro e w3 ⟨rfl, b3⟩; have k3 := k2.trans (b3.mono k2.size)) | (go_at_call_of 89 (Value.int IntKind.i64 2); refine (g2.out _ k1).mono ?_; rintro e w2 ⟨rfl, b2⟩; have k2 := k1.trans (b2.mono k1.size)) | (go_at_call 181; refine (qi.out _).mono ?_; rintro e w4 ⟨rfl, b4⟩; have k4 := k3.trans (b4.mono k3.size); have k4a := k4.trans ((below1 w4 (.cells #[.int .i64 (j : Int), .bool false, .int .u64 (0 : Int), .int .u64 (0 : Int), .int .u64 (0 : Int), .int .u64 (0 : Int)] 59)).mono k4.size); have N4 := h_ (AB.at0 w4 59 [.int .i64 (j : Int), .bool false, .int .u64 (0 : Int), .int .u64 (0 : Int), .int .u64 (0 : Int), .int .u64 (0 : Int)]); obtain ⟨q0, q1, q2, q3, q4, q5, -⟩ := N4.out.six) | (go_at_call 164; refine (qf.out _).mono ?_; rintro e w7 ⟨rfl, b7⟩; have k7 := k4a.trans (b7.mono k4a.size); have N7 := h_ (N4.out.later b7); obtain ⟨a0, a1, a2, a3, a4, a5, -⟩ := N7.out.six; obtain ⟨s0, s1, s2, s3, s4, s5, s6, s7, s8, s9, s10, s11⟩ := (O0.out.later k7).six; obtain ⟨t0, t1, t2, t3, t4, t5⟩ := ((F0.out.later k7).far6 (h := w.heap.size) (by omega) (.int .i64 (j : Int)) (.bool false) (.int .u64 (0 : Int)) (.int .u64 (0 : Int)) (.int .u64 (0 : Int)) (.int .u64 (0 : Int))).three))
              have ZA := ((O0.out.later k7).set6 (.int .i64 (j : Int)) (.bool false) (.int .u64 (0 : Int)) (.int .u64 (0 : Int)) (.int .u64 (0 : Int)) (.int .u64 (0 : Int))).far3 (h := (w.heap.size + 1)) (by omega) (.bool false) (.int .i64 0) (.int .i64 0)
              have ZF := ((F0.out.later k7).far6 (h := w.heap.size) (by omega) (.int .i64 (j : Int)) (.bool false) (.int .u64 (0 : Int)) (.int .u64 (0 : Int)) (.int .u64 (0 : Int)) (.int .u64 (0 : Int))).set3 (.bool false) (.int .i64 0) (.int .i64 0)
              obtain ⟨h0, h1, h2, h3, h4, h5, -⟩ := ZA.six
              obtain ⟨h6, h7, h8, -⟩ := ZF.three
              exact bodyPost_ret (v := .tuple #[.agg #[.int .i64 (j : Int), .bool false, .int .u64 (0 : Int), .int .u64 (0 : Int), .int .u64 (0 : Int), .int .u64 (0 : Int)], .agg #[.bool false, .int .i64 0, .int .i64 0]]) (by simp [results, Tryz.results177, go_sem, h0, h1, h2, h3, h4, h5, h6, h7, h8]) rfl ⟨congrArg _ e.out, below_set3 (g := (w.heap.size + 1)) (below_set6 (g := w.heap.size) (B0.out.trans (k7.mono B0.out.size)) (by omega) _ _ _ _ _ _) (by omega) _ _ _⟩
            · have e : Hid (Value.tuple #[.agg #[.int .i64 0, .bool false, .int .u64 0, .int .u64 0, .int .u64 0, .int .u64 0], .agg #[.bool true, .int .i64 4, .int .i64 1]] = R) := h_ (by rw [← HR.out, HE.out, if_neg hsf]; rfl)
              unfold ov at qf
              generalize foll (j : Int) false = fl at *
              go_enter Tryz.func177, Tryz.ntmps177
              go_wp2_with (first | (go_at_call_of 89 (Value.int IntKind.i64 0); refine (g0.out _ (Below.refl _ _)).mono ?_; rintro e w1 ⟨rfl, k1⟩) | (go_at_call_of 89 (Value.int IntKind.i64 3); refine (g3.out _ k2).mono ?_; rintro e w3 ⟨rfl, b3⟩; have k3 := k2.trans (b3.mono k2.size)) | (go_at_call_of 89 (Value.int IntKind.i64 2); refine (g2.out _ k1).mono ?_; rintro e w2 ⟨rfl, b2⟩; have k2 := k1.trans (b2.mono k1.size)) | (go_at_call 181; refine (qi.out _).mono ?_; rintro e w4 ⟨rfl, b4⟩; have k4 := k3.trans (b4.mono k3.size); have k4a := k4.trans ((below1 w4 (.cells #[.int .i64 (j : Int), .bool false, .int .u64 (0 : Int), .int .u64 (0 : Int), .int .u64 (0 : Int), .int .u64 (0 : Int)] 59)).mono k4.size); have N4 := h_ (AB.at0 w4 59 [.int .i64 (j : Int), .bool false, .int .u64 (0 : Int), .int .u64 (0 : Int), .int .u64 (0 : Int), .int .u64 (0 : Int)]); obtain ⟨q0, q1, q2, q3, q4, q5, -⟩ := N4.out.six) | (go_at_call 164; refine (qf.out _).mono ?_; rintro e w7 ⟨rfl, b7⟩; have k7 := k4a.trans (b7.mono k4a.size); have N7 := h_ (N4.out.later b7); obtain ⟨a0, a1, a2, a3, a4, a5, -⟩ := N7.out.six; skip) | (go_at_call 175; refine (qr.out _ _).mono ?_; rintro e w8 ⟨rfl, b8⟩; have k8 := k7.trans (b8.mono k7.size); obtain ⟨s0, s1, s2, s3, s4, s5, s6, s7, s8, s9, s10, s11⟩ := (O0.out.later k8).six; obtain ⟨t0, t1, t2, t3, t4, t5⟩ := ((F0.out.later k8).far6 (h := w.heap.size) (by omega) (.int .i64 0) (.bool false) (.int .u64 0) (.int .u64 0) (.int .u64 0) (.int .u64 0)).three))
              have ZA := ((O0.out.later k8).set6 (.int .i64 0) (.bool false) (.int .u64 0) (.int .u64 0) (.int .u64 0) (.int .u64 0)).far3 (h := (w.heap.size + 1)) (by omega) (.bool true) (.int .i64 4) (.int .i64 1)
              have ZF := ((F0.out.later k8).far6 (h := w.heap.size) (by omega) (.int .i64 0) (.bool false) (.int .u64 0) (.int .u64 0) (.int .u64 0) (.int .u64 0)).set3 (.bool true) (.int .i64 4) (.int .i64 1)
              obtain ⟨h0, h1, h2, h3, h4, h5, -⟩ := ZA.six
              obtain ⟨h6, h7, h8, -⟩ := ZF.three
              exact bodyPost_ret (v := .tuple #[.agg #[.int .i64 0, .bool false, .int .u64 0, .int .u64 0, .int .u64 0, .int .u64 0], .agg #[.bool true, .int .i64 4, .int .i64 1]]) (by simp [results, Tryz.results177, go_sem, h0, h1, h2, h3, h4, h5, h6, h7, h8]) rfl ⟨congrArg _ e.out, below_set3 (g := (w.heap.size + 1)) (below_set6 (g := w.heap.size) (B0.out.trans (k8.mono B0.out.size)) (by omega) _ _ _ _ _ _) (by omega) _ _ _⟩
        · rw [if_neg hf1] at HE
          have e : Hid (Value.tuple #[.agg #[.int .i64 0, .bool false, .int .u64 0, .int .u64 0, .int .u64 0, .int .u64 0], .agg #[.bool true, .int .i64 4, .int .i64 6]] = R) := h_ (by rw [← HR.out, HE.out]; rfl)
          have hf2 : (fst == 32768) = false := by simpa using hf1
          go_enter Tryz.func177, Tryz.ntmps177
          go_wp2_with (first | (go_at_call_of 89 (Value.int IntKind.i64 0); refine (g0.out _ (Below.refl _ _)).mono ?_; rintro e w1 ⟨rfl, k1⟩) | (go_at_call_of 89 (Value.int IntKind.i64 3); refine (g3.out _ k2).mono ?_; rintro e w3 ⟨rfl, b3⟩; have k3 := k2.trans (b3.mono k2.size)) | (go_at_call_of 89 (Value.int IntKind.i64 2); refine (g2.out _ k1).mono ?_; rintro e w2 ⟨rfl, b2⟩; have k2 := k1.trans (b2.mono k1.size)) | (go_at_call 181; refine (qi.out _).mono ?_; rintro e w4 ⟨rfl, b4⟩; have k4 := k3.trans (b4.mono k3.size)) | (go_at_call 175; refine (qr.out _ _).mono ?_; rintro e w5 ⟨rfl, b5⟩; have k5 := k4.trans (b5.mono k4.size); obtain ⟨s0, s1, s2, s3, s4, s5, s6, s7, s8, s9, s10, s11⟩ := (O0.out.later k5).six; obtain ⟨t0, t1, t2, t3, t4, t5⟩ := ((F0.out.later k5).far6 (h := w.heap.size) (by omega) (.int .i64 0) (.bool false) (.int .u64 0) (.int .u64 0) (.int .u64 0) (.int .u64 0)).three))
          have ZA := ((O0.out.later k5).set6 (.int .i64 0) (.bool false) (.int .u64 0) (.int .u64 0) (.int .u64 0) (.int .u64 0)).far3 (h := (w.heap.size + 1)) (by omega) (.bool true) (.int .i64 4) (.int .i64 6)
          have ZF := ((F0.out.later k5).far6 (h := w.heap.size) (by omega) (.int .i64 0) (.bool false) (.int .u64 0) (.int .u64 0) (.int .u64 0) (.int .u64 0)).set3 (.bool true) (.int .i64 4) (.int .i64 6)
          obtain ⟨h0, h1, h2, h3, h4, h5, -⟩ := ZA.six
          obtain ⟨h6, h7, h8, -⟩ := ZF.three
          exact bodyPost_ret (v := .tuple #[.agg #[.int .i64 0, .bool false, .int .u64 0, .int .u64 0, .int .u64 0, .int .u64 0], .agg #[.bool true, .int .i64 4, .int .i64 6]]) (by simp [results, Tryz.results177, go_sem, h0, h1, h2, h3, h4, h5, h6, h7, h8]) rfl ⟨congrArg _ e.out, below_set3 (g := (w.heap.size + 1)) (below_set6 (g := w.heap.size) (B0.out.trans (k5.mono B0.out.size)) (by omega) _ _ _ _ _ _) (by omega) _ _ _⟩
end Go.Proofs.YthhijfphfcmniaaGreat
namespace Go.Proofs.YthhijfphfcmniaaGreat
open Go Go.RowKit
def bodyA (l : List Int) (f : Int) (m : Bool) : Nat × Nat × Nat × Nat := (gx l (fsize f : Int), gy l (fsize f : Int), match m with | true => gx (l.drop (fsize f)) (fsize f : Int) | false => 0, match m with | true => gy (l.drop (fsize f)) (fsize f : Int) | false => 0)
theorem kW6_3 {p0 p1 p2 : Addr} {z0 z1 z2 : Value} {x0 x1 x2 x3 x4 x5 : Value} {w0 wa : World} {r : Nat} (h : wa.cell? p0 = some z0 ∧ wa.cell? p1 = some z1 ∧ wa.cell? p2 = some z2 ∧ Below w0.heap.size w0 wa) (hr : w0.heap.size ≤ r) (h0 : r ≠ p0.block) (h1 : r ≠ p1.block) (h2 : r ≠ p2.block) : ((((((wa.setCell ⟨r, 0, none⟩ (x0)).setCell ⟨r, 1, none⟩ (x1)).setCell ⟨r, 2, none⟩ (x2)).setCell ⟨r, 3, none⟩ (x3)).setCell ⟨r, 4, none⟩ (x4)).setCell ⟨r, 5, none⟩ (x5)).cell? p0 = some z0 ∧ ((((((wa.setCell ⟨r, 0, none⟩ (x0)).setCell ⟨r, 1, none⟩ (x1)).setCell ⟨r, 2, none⟩ (x2)).setCell ⟨r, 3, none⟩ (x3)).setCell ⟨r, 4, none⟩ (x4)).setCell ⟨r, 5, none⟩ (x5)).cell? p1 = some z1 ∧ ((((((wa.setCell ⟨r, 0, none⟩ (x0)).setCell ⟨r, 1, none⟩ (x1)).setCell ⟨r, 2, none⟩ (x2)).setCell ⟨r, 3, none⟩ (x3)).setCell ⟨r, 4, none⟩ (x4)).setCell ⟨r, 5, none⟩ (x5)).cell? p2 = some z2 ∧ Below w0.heap.size w0 ((((((wa.setCell ⟨r, 0, none⟩ (x0)).setCell ⟨r, 1, none⟩ (x1)).setCell ⟨r, 2, none⟩ (x2)).setCell ⟨r, 3, none⟩ (x3)).setCell ⟨r, 4, none⟩ (x4)).setCell ⟨r, 5, none⟩ (x5)) :=
  ⟨(by rw [World.cell?_setCell_far _ ⟨r, 5, none⟩ _ _ h0, World.cell?_setCell_far _ ⟨r, 4, none⟩ _ _ h0, World.cell?_setCell_far _ ⟨r, 3, none⟩ _ _ h0, World.cell?_setCell_far _ ⟨r, 2, none⟩ _ _ h0, World.cell?_setCell_far _ ⟨r, 1, none⟩ _ _ h0, World.cell?_setCell_far _ ⟨r, 0, none⟩ _ _ h0]; exact h.1), (by rw [World.cell?_setCell_far _ ⟨r, 5, none⟩ _ _ h1, World.cell?_setCell_far _ ⟨r, 4, none⟩ _ _ h1, World.cell?_setCell_far _ ⟨r, 3, none⟩ _ _ h1, World.cell?_setCell_far _ ⟨r, 2, none⟩ _ _ h1, World.cell?_setCell_far _ ⟨r, 1, none⟩ _ _ h1, World.cell?_setCell_far _ ⟨r, 0, none⟩ _ _ h1]; exact h.2.1), (by rw [World.cell?_setCell_far _ ⟨r, 5, none⟩ _ _ h2, World.cell?_setCell_far _ ⟨r, 4, none⟩ _ _ h2, World.cell?_setCell_far _ ⟨r, 3, none⟩ _ _ h2, World.cell?_setCell_far _ ⟨r, 2, none⟩ _ _ h2, World.cell?_setCell_far _ ⟨r, 1, none⟩ _ _ h2, World.cell?_setCell_far _ ⟨r, 0, none⟩ _ _ h2]; exact h.2.2.1), below_set6 h.2.2.2 hr _ _ _ _ _ _⟩
theorem kW3_3 {p0 p1 p2 : Addr} {z0 z1 z2 : Value} {v0 v1 v2 : Value} {w0 wa : World} {r : Nat} (h : wa.cell? p0 = some z0 ∧ wa.cell? p1 = some z1 ∧ wa.cell? p2 = some z2 ∧ Below w0.heap.size w0 wa) (hr : w0.heap.size ≤ r) (h0 : r ≠ p0.block) (h1 : r ≠ p1.block) (h2 : r ≠ p2.block) : (((wa.setCell ⟨r, 0, none⟩ (v0)).setCell ⟨r, 1, none⟩ (v1)).setCell ⟨r, 2, none⟩ (v2)).cell? p0 = some z0 ∧ (((wa.setCell ⟨r, 0, none⟩ (v0)).setCell ⟨r, 1, none⟩ (v1)).setCell ⟨r, 2, none⟩ (v2)).cell? p1 = some z1 ∧ (((wa.setCell ⟨r, 0, none⟩ (v0)).setCell ⟨r, 1, none⟩ (v1)).setCell ⟨r, 2, none⟩ (v2)).cell? p2 = some z2 ∧ Below w0.heap.size w0 (((wa.setCell ⟨r, 0, none⟩ (v0)).setCell ⟨r, 1, none⟩ (v1)).setCell ⟨r, 2, none⟩ (v2)) :=
  ⟨(by rw [World.cell?_setCell_far _ ⟨r, 2, none⟩ _ _ h0, World.cell?_setCell_far _ ⟨r, 1, none⟩ _ _ h0, World.cell?_setCell_far _ ⟨r, 0, none⟩ _ _ h0]; exact h.1), (by rw [World.cell?_setCell_far _ ⟨r, 2, none⟩ _ _ h1, World.cell?_setCell_far _ ⟨r, 1, none⟩ _ _ h1, World.cell?_setCell_far _ ⟨r, 0, none⟩ _ _ h1]; exact h.2.1), (by rw [World.cell?_setCell_far _ ⟨r, 2, none⟩ _ _ h2, World.cell?_setCell_far _ ⟨r, 1, none⟩ _ _ h2, World.cell?_setCell_far _ ⟨r, 0, none⟩ _ _ h2]; exact h.2.2.1), below_set3 h.2.2.2 hr _ _ _⟩
theorem kW6_6 {p0 p1 p2 p3 p4 p5 : Addr} {z0 z1 z2 z3 z4 z5 : Value} {x0 x1 x2 x3 x4 x5 : Value} {w0 wa : World} {r : Nat} (h : wa.cell? p0 = some z0 ∧ wa.cell? p1 = some z1 ∧ wa.cell? p2 = some z2 ∧ wa.cell? p3 = some z3 ∧ wa.cell? p4 = some z4 ∧ wa.cell? p5 = some z5 ∧ Below w0.heap.size w0 wa) (hr : w0.heap.size ≤ r) (h0 : r ≠ p0.block) (h1 : r ≠ p1.block) (h2 : r ≠ p2.block) (h3 : r ≠ p3.block) (h4 : r ≠ p4.block) (h5 : r ≠ p5.block) : ((((((wa.setCell ⟨r, 0, none⟩ (x0)).setCell ⟨r, 1, none⟩ (x1)).setCell ⟨r, 2, none⟩ (x2)).setCell ⟨r, 3, none⟩ (x3)).setCell ⟨r, 4, none⟩ (x4)).setCell ⟨r, 5, none⟩ (x5)).cell? p0 = some z0 ∧ ((((((wa.setCell ⟨r, 0, none⟩ (x0)).setCell ⟨r, 1, none⟩ (x1)).setCell ⟨r, 2, none⟩ (x2)).setCell ⟨r, 3, none⟩ (x3)).setCell ⟨r, 4, none⟩ (x4)).setCell ⟨r, 5, none⟩ (x5)).cell? p1 = some z1 ∧ ((((((wa.setCell ⟨r, 0, none⟩ (x0)).setCell ⟨r, 1, none⟩ (x1)).setCell ⟨r, 2, none⟩ (x2)).setCell ⟨r, 3, none⟩ (x3)).setCell ⟨r, 4, none⟩ (x4)).setCell ⟨r, 5, none⟩ (x5)).cell? p2 = some z2 ∧ ((((((wa.setCell ⟨r, 0, none⟩ (x0)).setCell ⟨r, 1, none⟩ (x1)).setCell ⟨r, 2, none⟩ (x2)).setCell ⟨r, 3, none⟩ (x3)).setCell ⟨r, 4, none⟩ (x4)).setCell ⟨r, 5, none⟩ (x5)).cell? p3 = some z3 ∧ ((((((wa.setCell ⟨r, 0, none⟩ (x0)).setCell ⟨r, 1, none⟩ (x1)).setCell ⟨r, 2, none⟩ (x2)).setCell ⟨r, 3, none⟩ (x3)).setCell ⟨r, 4, none⟩ (x4)).setCell ⟨r, 5, none⟩ (x5)).cell? p4 = some z4 ∧ ((((((wa.setCell ⟨r, 0, none⟩ (x0)).setCell ⟨r, 1, none⟩ (x1)).setCell ⟨r, 2, none⟩ (x2)).setCell ⟨r, 3, none⟩ (x3)).setCell ⟨r, 4, none⟩ (x4)).setCell ⟨r, 5, none⟩ (x5)).cell? p5 = some z5 ∧ Below w0.heap.size w0 ((((((wa.setCell ⟨r, 0, none⟩ (x0)).setCell ⟨r, 1, none⟩ (x1)).setCell ⟨r, 2, none⟩ (x2)).setCell ⟨r, 3, none⟩ (x3)).setCell ⟨r, 4, none⟩ (x4)).setCell ⟨r, 5, none⟩ (x5)) :=
  ⟨(by rw [World.cell?_setCell_far _ ⟨r, 5, none⟩ _ _ h0, World.cell?_setCell_far _ ⟨r, 4, none⟩ _ _ h0, World.cell?_setCell_far _ ⟨r, 3, none⟩ _ _ h0, World.cell?_setCell_far _ ⟨r, 2, none⟩ _ _ h0, World.cell?_setCell_far _ ⟨r, 1, none⟩ _ _ h0, World.cell?_setCell_far _ ⟨r, 0, none⟩ _ _ h0]; exact h.1), (by rw [World.cell?_setCell_far _ ⟨r, 5, none⟩ _ _ h1, World.cell?_setCell_far _ ⟨r, 4, none⟩ _ _ h1, World.cell?_setCell_far _ ⟨r, 3, none⟩ _ _ h1, World.cell?_setCell_far _ ⟨r, 2, none⟩ _ _ h1, World.cell?_setCell_far _ ⟨r, 1, none⟩ _ _ h1, World.cell?_setCell_far _ ⟨r, 0, none⟩ _ _ h1]; exact h.2.1), (by rw [World.cell?_setCell_far _ ⟨r, 5, none⟩ _ _ h2, World.cell?_setCell_far _ ⟨r, 4, none⟩ _ _ h2, World.cell?_setCell_far _ ⟨r, 3, none⟩ _ _ h2, World.cell?_setCell_far _ ⟨r, 2, none⟩ _ _ h2, World.cell?_setCell_far _ ⟨r, 1, none⟩ _ _ h2, World.cell?_setCell_far _ ⟨r, 0, none⟩ _ _ h2]; exact h.2.2.1), (by rw [World.cell?_setCell_far _ ⟨r, 5, none⟩ _ _ h3, World.cell?_setCell_far _ ⟨r, 4, none⟩ _ _ h3, World.cell?_setCell_far _ ⟨r, 3, none⟩ _ _ h3, World.cell?_setCell_far _ ⟨r, 2, none⟩ _ _ h3, World.cell?_setCell_far _ ⟨r, 1, none⟩ _ _ h3, World.cell?_setCell_far _ ⟨r, 0, none⟩ _ _ h3]; exact h.2.2.2.1), (by rw [World.cell?_setCell_far _ ⟨r, 5, none⟩ _ _ h4, World.cell?_setCell_far _ ⟨r, 4, none⟩ _ _ h4, World.cell?_setCell_far _ ⟨r, 3, none⟩ _ _ h4, World.cell?_setCell_far _ ⟨r, 2, none⟩ _ _ h4, World.cell?_setCell_far _ ⟨r, 1, none⟩ _ _ h4, World.cell?_setCell_far _ ⟨r, 0, none⟩ _ _ h4]; exact h.2.2.2.2.1), (by rw [World.cell?_setCell_far _ ⟨r, 5, none⟩ _ _ h5, World.cell?_setCell_far _ ⟨r, 4, none⟩ _ _ h5, World.cell?_setCell_far _ ⟨r, 3, none⟩ _ _ h5, World.cell?_setCell_far _ ⟨r, 2, none⟩ _ _ h5, World.cell?_setCell_far _ ⟨r, 1, none⟩ _ _ h5, World.cell?_setCell_far _ ⟨r, 0, none⟩ _ _ h5]; exact h.2.2.2.2.2.1), below_set6 h.2.2.2.2.2.2 hr _ _ _ _ _ _⟩
theorem kW3_6 {p0 p1 p2 p3 p4 p5 : Addr} {z0 z1 z2 z3 z4 z5 : Value} {v0 v1 v2 : Value} {w0 wa : World} {r : Nat} (h : wa.cell? p0 = some z0 ∧ wa.cell? p1 = some z1 ∧ wa.cell? p2 = some z2 ∧ wa.cell? p3 = some z3 ∧ wa.cell? p4 = some z4 ∧ wa.cell? p5 = some z5 ∧ Below w0.heap.size w0 wa) (hr : w0.heap.size ≤ r) (h0 : r ≠ p0.block) (h1 : r ≠ p1.block) (h2 : r ≠ p2.block) (h3 : r ≠ p3.block) (h4 : r ≠ p4.block) (h5 : r ≠ p5.block) : (((wa.setCell ⟨r, 0, none⟩ (v0)).setCell ⟨r, 1, none⟩ (v1)).setCell ⟨r, 2, none⟩ (v2)).cell? p0 = some z0 ∧ (((wa.setCell ⟨r, 0, none⟩ (v0)).setCell ⟨r, 1, none⟩ (v1)).setCell ⟨r, 2, none⟩ (v2)).cell? p1 = some z1 ∧ (((wa.setCell ⟨r, 0, none⟩ (v0)).setCell ⟨r, 1, none⟩ (v1)).setCell ⟨r, 2, none⟩ (v2)).cell? p2 = some z2 ∧ (((wa.setCell ⟨r, 0, none⟩ (v0)).setCell ⟨r, 1, none⟩ (v1)).setCell ⟨r, 2, none⟩ (v2)).cell? p3 = some z3 ∧ (((wa.setCell ⟨r, 0, none⟩ (v0)).setCell ⟨r, 1, none⟩ (v1)).setCell ⟨r, 2, none⟩ (v2)).cell? p4 = some z4 ∧ (((wa.setCell ⟨r, 0, none⟩ (v0)).setCell ⟨r, 1, none⟩ (v1)).setCell ⟨r, 2, none⟩ (v2)).cell? p5 = some z5 ∧ Below w0.heap.size w0 (((wa.setCell ⟨r, 0, none⟩ (v0)).setCell ⟨r, 1, none⟩ (v1)).setCell ⟨r, 2, none⟩ (v2)) :=
  ⟨(by rw [World.cell?_setCell_far _ ⟨r, 2, none⟩ _ _ h0, World.cell?_setCell_far _ ⟨r, 1, none⟩ _ _ h0, World.cell?_setCell_far _ ⟨r, 0, none⟩ _ _ h0]; exact h.1), (by rw [World.cell?_setCell_far _ ⟨r, 2, none⟩ _ _ h1, World.cell?_setCell_far _ ⟨r, 1, none⟩ _ _ h1, World.cell?_setCell_far _ ⟨r, 0, none⟩ _ _ h1]; exact h.2.1), (by rw [World.cell?_setCell_far _ ⟨r, 2, none⟩ _ _ h2, World.cell?_setCell_far _ ⟨r, 1, none⟩ _ _ h2, World.cell?_setCell_far _ ⟨r, 0, none⟩ _ _ h2]; exact h.2.2.1), (by rw [World.cell?_setCell_far _ ⟨r, 2, none⟩ _ _ h3, World.cell?_setCell_far _ ⟨r, 1, none⟩ _ _ h3, World.cell?_setCell_far _ ⟨r, 0, none⟩ _ _ h3]; exact h.2.2.2.1), (by rw [World.cell?_setCell_far _ ⟨r, 2, none⟩ _ _ h4, World.cell?_setCell_far _ ⟨r, 1, none⟩ _ _ h4, World.cell?_setCell_far _ ⟨r, 0, none⟩ _ _ h4]; exact h.2.2.2.2.1), (by rw [World.cell?_setCell_far _ ⟨r, 2, none⟩ _ _ h5, World.cell?_setCell_far _ ⟨r, 1, none⟩ _ _ h5, World.cell?_setCell_far _ ⟨r, 0, none⟩ _ _ h5]; exact h.2.2.2.2.2.1), below_set3 h.2.2.2.2.2.2 hr _ _ _⟩
end Go.Proofs.YthhijfphfcmniaaGreat
