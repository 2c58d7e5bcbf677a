import Derived.Test.YthhijfphfcmniaaGreatJDe
import Derived.Deep.RegionHeld3
import Derived.Deep.RegionWith
import Derived.Deep.MidRow
import Derived.Deep.Cut
set_option maxRecDepth 100000
set_option maxHeartbeats 8000000
set_option linter.unusedVariables false
set_option linter.unusedSimpArgs false
namespace Go.Proofs.YthhijfphfcmniaaGreat
section
open Go Go.RowKit
theorem pjee0 (w : World) : Hid ((w.heap.size + 1) ≤ ((w.alloc (.cells #[.bool false, .int .i64 0, .int .i64 0] 44)).alloc (.cells #[] 61)).heap.size) := h_ (by simp)
theorem rad_ok (v : Value) (l0 : List Int) (L : List A11) (w : World) (hB : Bytes w v l0) (hlen : l0.length ≤ 1000000) (hP : AOk RAns l0 L) (hLL : L.length ≤ 100) :
    Calls Tryz.prog 96 #[v] w fun e w' => (∃ r, e = .returned (.tuple #[r, .agg #[.bool false, .int .i64 0, .int .i64 0]]) ∧ w'.ownsRow w.heap.size 61 11 r L.length (ads L)) ∧ Below w.heap.size w w' := by
  have F0 := h_ ((AB.at0 w 44 [.bool false, .int .i64 0, .int .i64 0]).alloc (.cells #[] 61))
  have B0 := h_ (below2 w (.cells #[.bool false, .int .i64 0, .int .i64 0] 44) (.cells #[] 61))
  have OE : Hid (((w.alloc (.cells #[.bool false, .int .i64 0, .int .i64 0] 44)).alloc (.cells #[] 61)).ownsRow (w.heap.size + 1) 61 11 (.slice (some ⟨w.heap.size + 1, 0, none⟩) 0 0) 0 (ads [])) := h_ ⟨rfl, .inr ⟨w.heap.size + 1, 0, #[], rfl, Nat.le_refl _, by simpa using heap_alloc_last (w.alloc (.cells #[.bool false, .int .i64 0, .int .i64 0] 44)) (.cells #[] 61), Nat.le_refl _, by decide, rfl, rfl⟩⟩
  have HSZ := pjee0 w
  obtain ⟨ao0, cap0, rfl, hbr⟩ := hB
  have hB : Bytes w (.slice ao0 l0.length cap0) l0 := ⟨ao0, cap0, rfl, hbr⟩
  have HB0 := h_ hB
  clear hB hbr
  obtain ⟨i0, hi0, hz0, hz1, hz2⟩ := info_parts infoAc
  have HI : Hid (Tryz.prog.info? 61 = some i0 ∧ i0.zero = some (.agg #[.int .i64 0, .int .i64 0, .int .i64 0, .int .i64 0, .int .i64 0, .int .i64 0, .bool false, .int .u64 0, .int .u64 0, .int .u64 0, .int .u64 0]) ∧ i0.size = 11 ∧ i0.bytes = 88) := ⟨hi0, hz0, hz1, hz2⟩
  clear hi0 hz0 hz1 hz2
  have HP := h_ hP
  clear hP
  have HLL := h_ hLL
  clear hLL
  go_enter Tryz.func96, Tryz.ntmps96
  go_wp2
  go_loopw [4, 5] (fun u b wr => ∃ (n : Nat) (ua : Option Addr) (uc : Nat) (pre : List A11) (R : List A11), b = .int .i64 n ∧ u = .slice ua pre.length uc ∧ n ≤ l0.length ∧ pre.length ≤ n ∧ Hid (wr.ownsRow (w.heap.size + 1) 61 11 (.slice ua pre.length uc) pre.length (ads pre)) ∧ Hid (AOk RAns (l0.drop n) R ∧ pre ++ R = L) ∧ Hid (Below (w.heap.size + 1) ((w.alloc (.cells #[.bool false, .int .i64 0, .int .i64 0] 44)).alloc (.cells #[] 61)) wr)) (fun _ b _ => l0.length - (intOf b).toNat)
  case atStart => exact ⟨0, _, _, [], L, rfl, rfl, Nat.zero_le _, Nat.le_refl _, OE, h_ ⟨HP.out, rfl⟩, h_ (Below.refl _ _)⟩
  case round =>
    obtain ⟨n, ua, uc, pre, R, rfl, rfl, hn, hpn, HOw, HPP, KB⟩ := hrel
    have KW := h_ (B0.out.trans (KB.out.mono (Nat.le_succ _)))
    obtain ⟨ao2, -, s2, b2⟩ := bytes_slice (HB0.out.later KW.out) n hn
    obtain ⟨hpo, hpre⟩ := HPP.out
    clear HPP
    generalize hdd : l0.drop n = dd at *
    cases hpo with
    | nil =>
      have hnl : ¬ (n : Int) < (l0.length : Int) := by
        have := congrArg List.length hdd
        rw [List.length_drop] at this
        simp at this
        omega
      have hpr : pre = L := by simpa using hpre
      clear hdd b2 s2
      obtain ⟨s0, s1, s2', s3, s4, s5⟩ := (F0.out.below KB.out (Nat.lt_succ_self _)).three
      obtain ⟨u0, u1, u2, -⟩ := ((F0.out.below KB.out (Nat.lt_succ_self _)).set3 (.bool false) (.int .i64 0) (.int .i64 0)).three
      have bb := below_set3 (g := w.heap.size) KW.out (Nat.le_refl _) (.bool false) (.int .i64 0) (.int .i64 0)
      have hne : w.heap.size < (w.heap.size + 1) := Nat.lt_succ_self _
      have HX := h_ (far3row HOw.out hne)
      have g100 : ¬ (100 : Int) < (pre.length : Int) := by rw [hpr]; have := HLL.out; omega
      have HKL := h_ hpr
      clear hpre hpr
      go_wp2
      refine bodyPost_ret (v := .tuple #[.slice ua pre.length uc, .agg #[.bool false, .int .i64 0, .int .i64 0]]) (by simp [results, Tryz.results96, go_sem, u0, u1, u2]) rfl ⟨⟨_, rfl, ?_⟩, bb⟩
      rw [← HKL.out]
      exact ownr_base (HX.out _ _ _) (Nat.le_succ _)
    | @cons _ k p x q y f m a b c d nn RR hd hr h0 hle he g1 g2 g3 g4 hrest =>
      subst hdd
      clear hr he g1 g2 g3 g4
      have qd := hd _ wr b2
      unfold okV at qd
      have qd := h_ qd
      have hle' : n + nn ≤ l0.length := by rw [List.length_drop] at hle; omega
      clear b2 hd
      have gpos : (n : Int) < (l0.length : Int) := by omega
      have hwn : IntKind.i64.wrap ((n : Int) + (nn : Int)) = ((n + nn : Nat) : Int) := by rw [IntKind.wrap_i64]; omega
      have HWN := h_ hwn
      clear hwn
      go_wp2_with (first | (go_at_call 125; refine (qd.out).mono ?_; rintro e w3 ⟨rfl, b3⟩; have j3 : Below wr.heap.size wr ((w3.alloc (.cells #[.int .i64 k, .int .i64 p, .int .i64 x, .int .i64 q, .int .i64 y, .int .i64 f, .bool m, .int .u64 (a : Int), .int .u64 (b : Int), .int .u64 (c : Int), .int .u64 (d : Int)] 61)).alloc (.cells #[.bool false, .int .i64 0, .int .i64 0] 44)) := b3.trans ((below2 w3 _ _).mono b3.size); have K3 := KB.out.trans (j3.mono (Nat.le_trans HSZ.out KB.out.size)); obtain ⟨o0, o1, o2, o3, o4, o5, o6, o7, o8, o9, o10, -⟩ := ((AB.at0 w3 61 [.int .i64 k, .int .i64 p, .int .i64 x, .int .i64 q, .int .i64 y, .int .i64 f, .bool m, .int .u64 (a : Int), .int .u64 (b : Int), .int .u64 (c : Int), .int .u64 (d : Int)]).alloc (.cells #[.bool false, .int .i64 0, .int .i64 0] 44)).eleven; obtain ⟨f0, f1, f2, -⟩ := (AB.at1 w3 (.cells #[.int .i64 k, .int .i64 p, .int .i64 x, .int .i64 q, .int .i64 y, .int .i64 f, .bool m, .int .u64 (a : Int), .int .u64 (b : Int), .int .u64 (c : Int), .int .u64 (d : Int)] 61) 44 [.bool false, .int .i64 0, .int .i64 0]).three) | (at_builtin; refine wpList_append_new (.tmp 25) (.tmp 27) 32 rfl 61 i0 (.agg #[.int .i64 0, .int .i64 0, .int .i64 0, .int .i64 0, .int .i64 0, .int .i64 0, .bool false, .int .u64 0, .int .u64 0, .int .u64 0, .int .u64 0]) 11 88 Tryz.underlying32 HI.out.1 HI.out.2.1 HI.out.2.2.1 HI.out.2.2.2 rfl (by decide) (w.heap.size + 1) (.slice ua pre.length uc) pre.length (ads pre) (by simp [Act.eval, Act.put]) ((w3.alloc (.cells #[.int .i64 k, .int .i64 p, .int .i64 x, .int .i64 q, .int .i64 y, .int .i64 f, .bool m, .int .u64 (a : Int), .int .u64 (b : Int), .int .u64 (c : Int), .int .u64 (d : Int)] 61)).alloc (.cells #[.bool false, .int .i64 0, .int .i64 0] 44)) (ownr_later HOw.out j3) [.int .i64 k, .int .i64 p, .int .i64 x, .int .i64 q, .int .i64 y, .int .i64 f, .bool m, .int .u64 (a : Int), .int .u64 (b : Int), .int .u64 (c : Int), .int .u64 (d : Int)] _ rfl 1 (by simp) (by simp [Value.oneCell']) (by simp [Act.eval, Act.put]) (by simp [Region.wanted]) (by unfold maxLen; omega) (by omega) (Nat.le_trans HSZ.out K3.size) ?_; intro v4 w4 own4 b4))
      have own4 : w4.ownsRow (w.heap.size + 1) 61 11 v4 (pre ++ [(k, p, x, q, y, f, m, a, b, c, d)]).length (ads (pre ++ [(k, p, x, q, y, f, m, a, b, c, d)])) := by
        rw [ads_snoc, List.length_append]
        exact own4
      obtain ⟨ua4, uc4, e4⟩ := ownr_form own4
      subst e4
      have own4 := h_ own4
      go_wp2
      go_roundw
      case rel => exact ⟨n + nn, ua4, uc4, pre ++ [(k, p, x, q, y, f, m, a, b, c, d)], RR, by first | (rw [HWN.out]; done) | simp, rfl, hle', by simp; omega, own4, h_ ⟨by rw [← List.drop_drop]; exact hrest, by rw [← hpre]; simp⟩, h_ (K3.trans b4)⟩
      case measure => simp [intOf]; omega
theorem rad_many (v : Value) (l0 : List Int) (L : List A11) (w : World) (hB : Bytes w v l0) (hlen : l0.length ≤ 1000000) (hP : AOk RAns l0 L) (hLL : 100 < L.length) :
    Calls Tryz.prog 96 #[v] w fun e w' => (e = .returned (.tuple #[.slice none 0 0, .agg #[.bool true, .int .i64 2, .int .i64 7]])) ∧ Below w.heap.size w w' := by
  have F0 := h_ ((AB.at0 w 44 [.bool false, .int .i64 0, .int .i64 0]).alloc (.cells #[] 61))
  have B0 := h_ (below2 w (.cells #[.bool false, .int .i64 0, .int .i64 0] 44) (.cells #[] 61))
  have OE : Hid (((w.alloc (.cells #[.bool false, .int .i64 0, .int .i64 0] 44)).alloc (.cells #[] 61)).ownsRow (w.heap.size + 1) 61 11 (.slice (some ⟨w.heap.size + 1, 0, none⟩) 0 0) 0 (ads [])) := h_ ⟨rfl, .inr ⟨w.heap.size + 1, 0, #[], rfl, Nat.le_refl _, by simpa using heap_alloc_last (w.alloc (.cells #[.bool false, .int .i64 0, .int .i64 0] 44)) (.cells #[] 61), Nat.le_refl _, by decide, rfl, rfl⟩⟩
  have HSZ := pjee0 w
  obtain ⟨ao0, cap0, rfl, hbr⟩ := hB
  have hB : Bytes w (.slice ao0 l0.length cap0) l0 := ⟨ao0, cap0, rfl, hbr⟩
  have HB0 := h_ hB
  clear hB hbr
  obtain ⟨i0, hi0, hz0, hz1, hz2⟩ := info_parts infoAc
  have HI : Hid (Tryz.prog.info? 61 = some i0 ∧ i0.zero = some (.agg #[.int .i64 0, .int .i64 0, .int .i64 0, .int .i64 0, .int .i64 0, .int .i64 0, .bool false, .int .u64 0, .int .u64 0, .int .u64 0, .int .u64 0]) ∧ i0.size = 11 ∧ i0.bytes = 88) := ⟨hi0, hz0, hz1, hz2⟩
  clear hi0 hz0 hz1 hz2
  have HP := h_ hP
  clear hP
  have HLL := h_ hLL
  clear hLL
  go_enter Tryz.func96, Tryz.ntmps96
  go_wp2
  go_loopw [4, 5] (fun u b wr => ∃ (n : Nat) (ua : Option Addr) (uc : Nat) (pre : List A11) (R : List A11), b = .int .i64 n ∧ u = .slice ua pre.length uc ∧ n ≤ l0.length ∧ pre.length ≤ n ∧ Hid (wr.ownsRow (w.heap.size + 1) 61 11 (.slice ua pre.length uc) pre.length (ads pre)) ∧ Hid (AOk RAns (l0.drop n) R ∧ pre ++ R = L) ∧ Hid (Below (w.heap.size + 1) ((w.alloc (.cells #[.bool false, .int .i64 0, .int .i64 0] 44)).alloc (.cells #[] 61)) wr)) (fun _ b _ => l0.length - (intOf b).toNat)
  case atStart => exact ⟨0, _, _, [], L, rfl, rfl, Nat.zero_le _, Nat.le_refl _, OE, h_ ⟨HP.out, rfl⟩, h_ (Below.refl _ _)⟩
  case round =>
    obtain ⟨n, ua, uc, pre, R, rfl, rfl, hn, hpn, HOw, HPP, KB⟩ := hrel
    have KW := h_ (B0.out.trans (KB.out.mono (Nat.le_succ _)))
    obtain ⟨ao2, -, s2, b2⟩ := bytes_slice (HB0.out.later KW.out) n hn
    obtain ⟨hpo, hpre⟩ := HPP.out
    clear HPP
    generalize hdd : l0.drop n = dd at *
    cases hpo with
    | nil =>
      have hnl : ¬ (n : Int) < (l0.length : Int) := by
        have := congrArg List.length hdd
        rw [List.length_drop] at this
        simp at this
        omega
      have hpr : pre = L := by simpa using hpre
      clear hdd b2 s2
      obtain ⟨s0, s1, s2', s3, s4, s5⟩ := (F0.out.below KB.out (Nat.lt_succ_self _)).three
      obtain ⟨u0, u1, u2, -⟩ := ((F0.out.below KB.out (Nat.lt_succ_self _)).set3 (.bool true) (.int .i64 2) (.int .i64 7)).three
      have bb := below_set3 (g := w.heap.size) KW.out (Nat.le_refl _) (.bool true) (.int .i64 2) (.int .i64 7)
      have g100 : (100 : Int) < (pre.length : Int) := by rw [hpr]; have := HLL.out; omega
      clear hpre hpr
      go_wp2
      exact bodyPost_ret (v := .tuple #[.slice none 0 0, .agg #[.bool true, .int .i64 2, .int .i64 7]]) (by simp [results, Tryz.results96, go_sem, u0, u1, u2]) rfl ⟨rfl, bb⟩
    | @cons _ k p x q y f m a b c d nn RR hd hr h0 hle he g1 g2 g3 g4 hrest =>
      subst hdd
      clear hr he g1 g2 g3 g4
      have qd := hd _ wr b2
      unfold okV at qd
      have qd := h_ qd
      have hle' : n + nn ≤ l0.length := by rw [List.length_drop] at hle; omega
      clear b2 hd
      have gpos : (n : Int) < (l0.length : Int) := by omega
      have hwn : IntKind.i64.wrap ((n : Int) + (nn : Int)) = ((n + nn : Nat) : Int) := by rw [IntKind.wrap_i64]; omega
      have HWN := h_ hwn
      clear hwn
      go_wp2_with (first | (go_at_call 125; refine (qd.out).mono ?_; rintro e w3 ⟨rfl, b3⟩; have j3 : Below wr.heap.size wr ((w3.alloc (.cells #[.int .i64 k, .int .i64 p, .int .i64 x, .int .i64 q, .int .i64 y, .int .i64 f, .bool m, .int .u64 (a : Int), .int .u64 (b : Int), .int .u64 (c : Int), .int .u64 (d : Int)] 61)).alloc (.cells #[.bool false, .int .i64 0, .int .i64 0] 44)) := b3.trans ((below2 w3 _ _).mono b3.size); have K3 := KB.out.trans (j3.mono (Nat.le_trans HSZ.out KB.out.size)); obtain ⟨o0, o1, o2, o3, o4, o5, o6, o7, o8, o9, o10, -⟩ := ((AB.at0 w3 61 [.int .i64 k, .int .i64 p, .int .i64 x, .int .i64 q, .int .i64 y, .int .i64 f, .bool m, .int .u64 (a : Int), .int .u64 (b : Int), .int .u64 (c : Int), .int .u64 (d : Int)]).alloc (.cells #[.bool false, .int .i64 0, .int .i64 0] 44)).eleven; obtain ⟨f0, f1, f2, -⟩ := (AB.at1 w3 (.cells #[.int .i64 k, .int .i64 p, .int .i64 x, .int .i64 q, .int .i64 y, .int .i64 f, .bool m, .int .u64 (a : Int), .int .u64 (b : Int), .int .u64 (c : Int), .int .u64 (d : Int)] 61) 44 [.bool false, .int .i64 0, .int .i64 0]).three) | (at_builtin; refine wpList_append_new (.tmp 25) (.tmp 27) 32 rfl 61 i0 (.agg #[.int .i64 0, .int .i64 0, .int .i64 0, .int .i64 0, .int .i64 0, .int .i64 0, .bool false, .int .u64 0, .int .u64 0, .int .u64 0, .int .u64 0]) 11 88 Tryz.underlying32 HI.out.1 HI.out.2.1 HI.out.2.2.1 HI.out.2.2.2 rfl (by decide) (w.heap.size + 1) (.slice ua pre.length uc) pre.length (ads pre) (by simp [Act.eval, Act.put]) ((w3.alloc (.cells #[.int .i64 k, .int .i64 p, .int .i64 x, .int .i64 q, .int .i64 y, .int .i64 f, .bool m, .int .u64 (a : Int), .int .u64 (b : Int), .int .u64 (c : Int), .int .u64 (d : Int)] 61)).alloc (.cells #[.bool false, .int .i64 0, .int .i64 0] 44)) (ownr_later HOw.out j3) [.int .i64 k, .int .i64 p, .int .i64 x, .int .i64 q, .int .i64 y, .int .i64 f, .bool m, .int .u64 (a : Int), .int .u64 (b : Int), .int .u64 (c : Int), .int .u64 (d : Int)] _ rfl 1 (by simp) (by simp [Value.oneCell']) (by simp [Act.eval, Act.put]) (by simp [Region.wanted]) (by unfold maxLen; omega) (by omega) (Nat.le_trans HSZ.out K3.size) ?_; intro v4 w4 own4 b4))
      have own4 : w4.ownsRow (w.heap.size + 1) 61 11 v4 (pre ++ [(k, p, x, q, y, f, m, a, b, c, d)]).length (ads (pre ++ [(k, p, x, q, y, f, m, a, b, c, d)])) := by
        rw [ads_snoc, List.length_append]
        exact own4
      obtain ⟨ua4, uc4, e4⟩ := ownr_form own4
      subst e4
      have own4 := h_ own4
      go_wp2
      go_roundw
      case rel => exact ⟨n + nn, ua4, uc4, pre ++ [(k, p, x, q, y, f, m, a, b, c, d)], RR, by first | (rw [HWN.out]; done) | simp, rfl, hle', by simp; omega, own4, h_ ⟨by rw [← List.drop_drop]; exact hrest, by rw [← hpre]; simp⟩, h_ (K3.trans b4)⟩
      case measure => simp [intOf]; omega
theorem rad_bad (v : Value) (l0 : List Int) (z : Int) (w : World) (hB : Bytes w v l0) (hlen : l0.length ≤ 1000000) (hP : ABad RAns l0 z) :
    Calls Tryz.prog 96 #[v] w fun e w' => (e = .returned (.tuple #[.slice none 0 0, .agg #[.bool true, .int .i64 2, .int .i64 z]])) ∧ Below w.heap.size w w' := by
  have F0 := h_ ((AB.at0 w 44 [.bool false, .int .i64 0, .int .i64 0]).alloc (.cells #[] 61))
  have B0 := h_ (below2 w (.cells #[.bool false, .int .i64 0, .int .i64 0] 44) (.cells #[] 61))
  have OE : Hid (((w.alloc (.cells #[.bool false, .int .i64 0, .int .i64 0] 44)).alloc (.cells #[] 61)).ownsRow (w.heap.size + 1) 61 11 (.slice (some ⟨w.heap.size + 1, 0, none⟩) 0 0) 0 (ads [])) := h_ ⟨rfl, .inr ⟨w.heap.size + 1, 0, #[], rfl, Nat.le_refl _, by simpa using heap_alloc_last (w.alloc (.cells #[.bool false, .int .i64 0, .int .i64 0] 44)) (.cells #[] 61), Nat.le_refl _, by decide, rfl, rfl⟩⟩
  have HSZ := pjee0 w
  obtain ⟨ao0, cap0, rfl, hbr⟩ := hB
  have hB : Bytes w (.slice ao0 l0.length cap0) l0 := ⟨ao0, cap0, rfl, hbr⟩
  have HB0 := h_ hB
  clear hB hbr
  obtain ⟨i0, hi0, hz0, hz1, hz2⟩ := info_parts infoAc
  have HI : Hid (Tryz.prog.info? 61 = some i0 ∧ i0.zero = some (.agg #[.int .i64 0, .int .i64 0, .int .i64 0, .int .i64 0, .int .i64 0, .int .i64 0, .bool false, .int .u64 0, .int .u64 0, .int .u64 0, .int .u64 0]) ∧ i0.size = 11 ∧ i0.bytes = 88) := ⟨hi0, hz0, hz1, hz2⟩
  clear hi0 hz0 hz1 hz2
  have HP := h_ hP
  clear hP
  go_enter Tryz.func96, Tryz.ntmps96
  go_wp2
  go_loopw [4, 5] (fun u b wr => ∃ (n : Nat) (ua : Option Addr) (uc : Nat) (pre : List A11), b = .int .i64 n ∧ u = .slice ua pre.length uc ∧ n ≤ l0.length ∧ pre.length ≤ n ∧ Hid (wr.ownsRow (w.heap.size + 1) 61 11 (.slice ua pre.length uc) pre.length (ads pre)) ∧ Hid (ABad RAns (l0.drop n) z) ∧ Hid (Below (w.heap.size + 1) ((w.alloc (.cells #[.bool false, .int .i64 0, .int .i64 0] 44)).alloc (.cells #[] 61)) wr)) (fun _ b _ => l0.length - (intOf b).toNat)
  case atStart => exact ⟨0, _, _, [], rfl, rfl, Nat.zero_le _, Nat.le_refl _, OE, HP, h_ (Below.refl _ _)⟩
  case round =>
    obtain ⟨n, ua, uc, pre, rfl, rfl, hn, hpn, HOw, HPP, KB⟩ := hrel
    have KW := h_ (B0.out.trans (KB.out.mono (Nat.le_succ _)))
    obtain ⟨ao2, -, s2, b2⟩ := bytes_slice (HB0.out.later KW.out) n hn
    have hpo := HPP.out
    clear HPP
    generalize hdd : l0.drop n = dd at *
    cases hpo with
    | here h0 hd =>
      have qd := hd _ wr b2
      unfold badV at qd
      have qd := h_ qd
      have gpos : (n : Int) < (l0.length : Int) := by rw [← hdd, List.length_drop] at h0; omega
      clear hd hdd b2
      go_upto_region 6 with (first | (go_at_call 125; refine (qd.out).mono ?_; rintro e w3 ⟨rfl, b3⟩; have j3 : Below wr.heap.size wr ((w3.alloc (.cells #[.int .i64 0, .int .i64 0, .int .i64 0, .int .i64 0, .int .i64 0, .int .i64 0, .bool false, .int .u64 0, .int .u64 0, .int .u64 0, .int .u64 0] 61)).alloc (.cells #[.bool true, .int .i64 2, .int .i64 z] 44)) := b3.trans ((below2 w3 _ _).mono b3.size); have K3 := KB.out.trans (j3.mono (Nat.le_trans HSZ.out KB.out.size)); obtain ⟨o0, o1, o2, o3, o4, o5, o6, o7, o8, o9, o10, -⟩ := ((AB.at0 w3 61 [.int .i64 0, .int .i64 0, .int .i64 0, .int .i64 0, .int .i64 0, .int .i64 0, .bool false, .int .u64 0, .int .u64 0, .int .u64 0, .int .u64 0]).alloc (.cells #[.bool true, .int .i64 2, .int .i64 z] 44)).eleven; obtain ⟨f0, f1, f2, -⟩ := (AB.at1 w3 (.cells #[.int .i64 0, .int .i64 0, .int .i64 0, .int .i64 0, .int .i64 0, .int .i64 0, .bool false, .int .u64 0, .int .u64 0, .int .u64 0, .int .u64 0] 61) 44 [.bool true, .int .i64 2, .int .i64 z]).three))
      have BX := B0.out.trans (K3.mono (Nat.le_succ _))
      have hgw : w.heap.size < w3.heap.size := Nat.lt_of_lt_of_le (Nat.lt_of_lt_of_le (Nat.lt_of_succ_le HSZ.out) KB.out.size) b3.size
      have FD := F0.out.below K3 (Nat.lt_succ_self _)
      generalize ((w3.alloc (.cells #[.int .i64 0, .int .i64 0, .int .i64 0, .int .i64 0, .int .i64 0, .int .i64 0, .bool false, .int .u64 0, .int .u64 0, .int .u64 0, .int .u64 0] 61)).alloc (.cells #[.bool true, .int .i64 2, .int .i64 z] 44)) = X at *
      have FD : AB X.drew w.heap.size 44 [.bool false, .int .i64 0, .int .i64 0] := FD
      obtain ⟨s0, s1, s2', s3, s4, s5⟩ := FD.three
      obtain ⟨u0, u1, u2, -⟩ := (FD.set3 (.bool true) (.int .i64 2) (.int .i64 z)).three
      clear FD
      refine wp_region_held_drew (S := (fun w' => w'.cell? ⟨w3.heap.size + 1, 0, none⟩ = some (.bool true) ∧ w'.cell? ⟨w3.heap.size + 1, 1, none⟩ = some (.int .i64 2) ∧ w'.cell? ⟨w3.heap.size + 1, 2, none⟩ = some (.int .i64 z) ∧ Below w.heap.size w w')) (by kernel_rfl) (⟨f0, f1, f2, BX.drew⟩) (fun hHeld => ?_)
      generalize X.drew = D at *
      refine tR 0 ?_ (some 24) rfl (by kernel_rfl) rfl (by rfl) ?_ (fun _ _ _ h => h) (by assumption) ?_
      rotate_left
      · intro w hSw; (try dsimp only at hSw); go_simp; (try with_reducible rfl)
      simp only [Act.put, sIb, sCz, sCs]
      refine tR 1 ?_ (some 2) rfl (by kernel_rfl) rfl (by rfl) ?_ (fun _ _ _ h => h) (by assumption) ?_
      rotate_left
      · intro w hSw; (try dsimp only at hSw); go_simp; (try with_reducible rfl)
      simp only [Act.put, sIb, sCz, sCs]
      refine wpAnyH_ready (rs := [2]) (by kernel_rfl) (by simp) ?_
      refine AllReadyH.cons rfl (fun K hK => ?_) (AllReadyH.nil)
      go_simp
      refine hK.out _ _ (kW3_3 hHeld (by omega) (by dsimp only; omega) (by dsimp only; omega) (by dsimp only; omega)) (fun hHeld => ?_)
      clear hK K
      try simp only [Act.put, sIb, sCz, sCs]
      refine wpAnyH_done (by kernel_rfl) ?_ _
      go_wp2_with fail
      exact bodyPost_ret (v := .tuple #[.slice none 0 0, .agg #[.bool true, .int .i64 2, .int .i64 z]]) (by simp [results, Tryz.results96, go_sem, u0, u1, u2]) rfl ⟨rfl, hHeld.2.2.2⟩
    | @cons _ k p x q y f m a b c d nn _ hd h0 hle hrest =>
      subst hdd
      have qd := hd _ wr b2
      unfold okV at qd
      have qd := h_ qd
      have hle' : n + nn ≤ l0.length := by rw [List.length_drop] at hle; omega
      clear b2 hd
      have gpos : (n : Int) < (l0.length : Int) := by omega
      have hwn : IntKind.i64.wrap ((n : Int) + (nn : Int)) = ((n + nn : Nat) : Int) := by rw [IntKind.wrap_i64]; omega
      have HWN := h_ hwn
      clear hwn
      go_wp2_with (first | (go_at_call 125; refine (qd.out).mono ?_; rintro e w3 ⟨rfl, b3⟩; have j3 : Below wr.heap.size wr ((w3.alloc (.cells #[.int .i64 k, .int .i64 p, .int .i64 x, .int .i64 q, .int .i64 y, .int .i64 f, .bool m, .int .u64 (a : Int), .int .u64 (b : Int), .int .u64 (c : Int), .int .u64 (d : Int)] 61)).alloc (.cells #[.bool false, .int .i64 0, .int .i64 0] 44)) := b3.trans ((below2 w3 _ _).mono b3.size); have K3 := KB.out.trans (j3.mono (Nat.le_trans HSZ.out KB.out.size)); obtain ⟨o0, o1, o2, o3, o4, o5, o6, o7, o8, o9, o10, -⟩ := ((AB.at0 w3 61 [.int .i64 k, .int .i64 p, .int .i64 x, .int .i64 q, .int .i64 y, .int .i64 f, .bool m, .int .u64 (a : Int), .int .u64 (b : Int), .int .u64 (c : Int), .int .u64 (d : Int)]).alloc (.cells #[.bool false, .int .i64 0, .int .i64 0] 44)).eleven; obtain ⟨f0, f1, f2, -⟩ := (AB.at1 w3 (.cells #[.int .i64 k, .int .i64 p, .int .i64 x, .int .i64 q, .int .i64 y, .int .i64 f, .bool m, .int .u64 (a : Int), .int .u64 (b : Int), .int .u64 (c : Int), .int .u64 (d : Int)] 61) 44 [.bool false, .int .i64 0, .int .i64 0]).three) | (at_builtin; refine wpList_append_new (.tmp 25) (.tmp 27) 32 rfl 61 i0 (.agg #[.int .i64 0, .int .i64 0, .int .i64 0, .int .i64 0, .int .i64 0, .int .i64 0, .bool false, .int .u64 0, .int .u64 0, .int .u64 0, .int .u64 0]) 11 88 Tryz.underlying32 HI.out.1 HI.out.2.1 HI.out.2.2.1 HI.out.2.2.2 rfl (by decide) (w.heap.size + 1) (.slice ua pre.length uc) pre.length (ads pre) (by simp [Act.eval, Act.put]) ((w3.alloc (.cells #[.int .i64 k, .int .i64 p, .int .i64 x, .int .i64 q, .int .i64 y, .int .i64 f, .bool m, .int .u64 (a : Int), .int .u64 (b : Int), .int .u64 (c : Int), .int .u64 (d : Int)] 61)).alloc (.cells #[.bool false, .int .i64 0, .int .i64 0] 44)) (ownr_later HOw.out j3) [.int .i64 k, .int .i64 p, .int .i64 x, .int .i64 q, .int .i64 y, .int .i64 f, .bool m, .int .u64 (a : Int), .int .u64 (b : Int), .int .u64 (c : Int), .int .u64 (d : Int)] _ rfl 1 (by simp) (by simp [Value.oneCell']) (by simp [Act.eval, Act.put]) (by simp [Region.wanted]) (by unfold maxLen; omega) (by omega) (Nat.le_trans HSZ.out K3.size) ?_; intro v4 w4 own4 b4))
      have own4 : w4.ownsRow (w.heap.size + 1) 61 11 v4 (pre ++ [(k, p, x, q, y, f, m, a, b, c, d)]).length (ads (pre ++ [(k, p, x, q, y, f, m, a, b, c, d)])) := by
        rw [ads_snoc, List.length_append]
        exact own4
      obtain ⟨ua4, uc4, e4⟩ := ownr_form own4
      subst e4
      have own4 := h_ own4
      go_wp2
      go_roundw
      case rel => exact ⟨n + nn, ua4, uc4, pre ++ [(k, p, x, q, y, f, m, a, b, c, d)], by first | (rw [HWN.out]; done) | simp, rfl, hle', by simp; omega, own4, h_ (by rw [← List.drop_drop]; exact hrest), h_ (K3.trans b4)⟩
      case measure => simp [intOf]; omega
end
end Go.Proofs.YthhijfphfcmniaaGreat
