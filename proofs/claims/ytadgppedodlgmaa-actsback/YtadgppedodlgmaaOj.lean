import Derived.Test.YtadgppedodlgmaaOf
import Derived.Test.YtadgppedodlgmaaOg
import Derived.Deep.RegionHeld3
import Derived.Deep.RegionWith
import Derived.Deep.MidRow
import Derived.Deep.Cut
namespace Go.Proofs.Ytadgppedodlgmaa
open Go Go.RowKit
set_option linter.unusedVariables false
set_option linter.unusedSimpArgs false

set_option maxRecDepth 100000 in
set_option maxHeartbeats 2000000 in
theorem roenc_no (f : Int) (m : Bool) (a b c d : Nat) (w : World) (ha : a < 18446744073709551616) (hb : b < 18446744073709551616) (hc : c < 18446744073709551616) (hd : d < 18446744073709551616) (h : rgt f m a b c d = false) :
    Calls Try.prog 45 #[ov f m a b c d] w fun e w' => e = .returned (.tuple #[.slice none 0 0, .int .i64 1]) ∧ Below w.heap.size w w' := by
  have A0 := hide_ (AB.at0 w 44 [.int .i64 f, .bool m, .int .u64 (a : Int), .int .u64 (b : Int), .int .u64 (c : Int), .int .u64 (d : Int)])
  have B0 := hide_ (below1 w (.cells #[.int .i64 f, .bool m, .int .u64 (a : Int), .int .u64 (b : Int), .int .u64 (c : Int), .int .u64 (d : Int)] 44))
  have q1 := fun w => roright_any f m a b c d w ha hb hc hd
  rw [h] at q1
  have q1 := hide_ q1
  obtain ⟨c0, c1, c2, c3, c4, c5, -⟩ := A0.out.six
  unfold ov at *
  clear ha hb hc hd h
  go_enter Try.func45, Try.ntmps45
  go_wp2_with (go_at_call 66; refine (q1.out _).mono ?_; rintro e w1 ⟨rfl, b1⟩)
  go_ret2
  exact ⟨rfl, B0.out.trans (b1.mono B0.out.size)⟩

set_option maxRecDepth 100000 in
set_option maxHeartbeats 4000000 in
theorem roenc_yes0 (f : Int) (a b c d : Nat) (w : World) (ha : a < 18446744073709551616) (hb : b < 18446744073709551616) (hc : c < 18446744073709551616) (hd : d < 18446744073709551616) (h : rgt f false a b c d = true) :
    Calls Try.prog 45 #[ov f false a b c d] w fun e w' => ∃ r, e = .returned (.tuple #[r, .int .i64 0]) ∧ Bytes w' r (encL f false a b c d) ∧ Below w.heap.size w w' := by
  have hf := rgt_fok h
  have A0 := hide_ (AB.at0 w 44 [.int .i64 f, .bool false, .int .u64 (a : Int), .int .u64 (b : Int), .int .u64 (c : Int), .int .u64 (d : Int)])
  have B0 := hide_ (below1 w (.cells #[.int .i64 f, .bool false, .int .u64 (a : Int), .int .u64 (b : Int), .int .u64 (c : Int), .int .u64 (d : Int)] 44))
  have q1 := fun w => roright_any f false a b c d w ha hb hc hd
  rw [h] at q1
  have q1 := hide_ q1
  have q2 := hide_ (fun w => rfid_any f w)
  have q4 := hide_ (fun w => rfsize_any f w)
  have hs := fsize_le f
  obtain ⟨hx1, hx2⟩ := fid_range f hf
  have p1 := hide_ (fun w => rnput_any (.slice none 0 0) [] 32768 2 w (Bytes.nil w) (by simp) (by decide) (isB_spl2 _))
  have e1 : kind f false = 2 * fid f := rfl
  have e2 : foll f false = (fsize f : Int) := rfl
  have p2 : Hid (∀ v w, Bytes w v ([] ++ spl 32768 2) → Calls Try.prog 44 #[v, .int .i64 (2 * fid f), .int .i64 1] w fun e w' => ∃ r, e = .returned r ∧ Bytes w' r ([] ++ spl 32768 2 ++ spl (kind f false) 1) ∧ Below w.heap.size w w') := hide_ (fun v w hB => by
    rw [← e1]
    exact rnput_any v _ (kind f false) 1 w hB (by simp [spl_len2]) (enc_bound1 f false hf) (isB_spl1 _))
  have p3 : Hid (∀ v w, Bytes w v ([] ++ spl 32768 2 ++ spl (kind f false) 1) → Calls Try.prog 44 #[v, .int .i64 ((fsize f : Int)), .int .i64 1] w fun e w' => ∃ r, e = .returned r ∧ Bytes w' r ([] ++ spl 32768 2 ++ spl (kind f false) 1 ++ spl (foll f false) 1) ∧ Below w.heap.size w w') := hide_ (fun v w hB => by
    rw [← e2]
    exact rnput_any v _ (foll f false) 1 w hB (by simp [spl_len2, spl_len1]) (enc_bound2 f false) (isB_spl1 _))
  have p4 := hide_ (fun v w hB => rwput_any v ([] ++ spl 32768 2 ++ spl (kind f false) 1 ++ spl (foll f false) 1) a b (fsize f : Int) w hB (by simp [spl_len2, spl_len1]) ha hb)
  have p5 := hide_ (fun v w hB => rwput_any v ([] ++ spl 32768 2 ++ spl (kind f false) 1 ++ spl (foll f false) 1 ++ wtail a b (fsize f : Int)) c d (fsize f : Int) w hB (by simp [spl_len2, spl_len1, wtail_length]; have := cl_le (fsize f : Int) 16; omega) hc hd)
  have HL : Hid ([] ++ spl 32768 2 ++ spl (kind f false) 1 ++ spl (foll f false) 1 ++ wtail a b (fsize f : Int) = encL f false a b c d) := hide_ (by simp [encL])
  clear e1 e2
  generalize encL f false a b c d = L at *
  generalize [] ++ spl 32768 2 ++ spl (kind f false) 1 ++ spl (foll f false) 1 ++ wtail a b (fsize f : Int) ++ wtail c d (fsize f : Int) = L5 at *
  generalize [] ++ spl 32768 2 ++ spl (kind f false) 1 ++ spl (foll f false) 1 ++ wtail a b (fsize f : Int) = L4 at *
  generalize [] ++ spl 32768 2 ++ spl (kind f false) 1 ++ spl (foll f false) 1 = L3 at *
  generalize [] ++ spl 32768 2 ++ spl (kind f false) 1 = L2 at *
  generalize [] ++ spl 32768 2 = L1 at *
  generalize fid f = x at *
  generalize fsize f = s at *
  have hw1 : IntKind.i64.wrap (2 * x) = 2 * x := by rw [IntKind.wrap_i64]; omega
  have hw2 : IntKind.i64.wrap (2 * x + 1) = 2 * x + 1 := by rw [IntKind.wrap_i64]; omega
  have hw3 : IntKind.i64.wrap (2 * (s : Int)) = 2 * (s : Int) := by rw [IntKind.wrap_i64]; omega
  obtain ⟨c0, c1, c2, c3, c4, c5, -⟩ := A0.out.six
  unfold ov at *
  unfold wd at p4 p5
  clear ha hb hc hd h hf
  go_enter Try.func45, Try.ntmps45
  go_wp2_with (first | (go_at_call 66; refine (q1.out _).mono ?_; rintro e w1 ⟨rfl, k1⟩; obtain ⟨y10, y11, y12, y13, y14, y15, -⟩ := (A0.out.later k1).six) | (go_at_call 69; refine (q4.out _).mono ?_; rintro e w9 ⟨rfl, rfl⟩) | (go_at_call 70; refine (q2.out _).mono ?_; rintro e w9 ⟨rfl, rfl⟩) | (go_at_call_of 44 (Value.int IntKind.i64 32768); refine (p1.out _).mono ?_; rintro e w3 ⟨r1, rfl, h1, b3⟩; have h1 := hide_ h1; have k3 := k1.trans (b3.mono k1.size); obtain ⟨y30, y31, y32, y33, y34, y35, -⟩ := (A0.out.later k3).six) | (go_at_call_of 44 r1; refine (p2.out _ _ h1.out).mono ?_; rintro e w4 ⟨r2, rfl, h2, b4⟩; have h2 := hide_ h2; have k4 := k3.trans (b4.mono k3.size); obtain ⟨y40, y41, y42, y43, y44, y45, -⟩ := (A0.out.later k4).six) | (go_at_call_of 44 r2; refine (p3.out _ _ h2.out).mono ?_; rintro e w6 ⟨r3, rfl, h3, b6⟩; have h3 := hide_ h3; have k6 := k4.trans (b6.mono k4.size); obtain ⟨y60, y61, y62, y63, y64, y65, -⟩ := (A0.out.later k6).six) | (go_at_call 71; refine (p4.out _ _ h3.out).mono ?_; rintro e w8 ⟨r4, rfl, h8, b8⟩; have h8 := hide_ h8; have k8 := k6.trans (b8.mono k6.size)))
  go_ret2
  exact ⟨_, rfl, by rw [← HL.out]; exact h8.out, B0.out.trans (k8.mono B0.out.size)⟩

set_option maxRecDepth 100000 in
set_option maxHeartbeats 4000000 in
theorem roenc_yes1 (f : Int) (a b c d : Nat) (w : World) (ha : a < 18446744073709551616) (hb : b < 18446744073709551616) (hc : c < 18446744073709551616) (hd : d < 18446744073709551616) (h : rgt f true a b c d = true) :
    Calls Try.prog 45 #[ov f true a b c d] w fun e w' => ∃ r, e = .returned (.tuple #[r, .int .i64 0]) ∧ Bytes w' r (encL f true a b c d) ∧ Below w.heap.size w w' := by
  have hf := rgt_fok h
  have A0 := hide_ (AB.at0 w 44 [.int .i64 f, .bool true, .int .u64 (a : Int), .int .u64 (b : Int), .int .u64 (c : Int), .int .u64 (d : Int)])
  have B0 := hide_ (below1 w (.cells #[.int .i64 f, .bool true, .int .u64 (a : Int), .int .u64 (b : Int), .int .u64 (c : Int), .int .u64 (d : Int)] 44))
  have q1 := fun w => roright_any f true a b c d w ha hb hc hd
  rw [h] at q1
  have q1 := hide_ q1
  have q2 := hide_ (fun w => rfid_any f w)
  have q4 := hide_ (fun w => rfsize_any f w)
  have hs := fsize_le f
  obtain ⟨hx1, hx2⟩ := fid_range f hf
  have p1 := hide_ (fun w => rnput_any (.slice none 0 0) [] 32768 2 w (Bytes.nil w) (by simp) (by decide) (isB_spl2 _))
  have e1 : kind f true = 2 * fid f + 1 := rfl
  have e2 : foll f true = 2 * (fsize f : Int) := rfl
  have p2 : Hid (∀ v w, Bytes w v ([] ++ spl 32768 2) → Calls Try.prog 44 #[v, .int .i64 (2 * fid f + 1), .int .i64 1] w fun e w' => ∃ r, e = .returned r ∧ Bytes w' r ([] ++ spl 32768 2 ++ spl (kind f true) 1) ∧ Below w.heap.size w w') := hide_ (fun v w hB => by
    rw [← e1]
    exact rnput_any v _ (kind f true) 1 w hB (by simp [spl_len2]) (enc_bound1 f true hf) (isB_spl1 _))
  have p3 : Hid (∀ v w, Bytes w v ([] ++ spl 32768 2 ++ spl (kind f true) 1) → Calls Try.prog 44 #[v, .int .i64 (2 * (fsize f : Int)), .int .i64 1] w fun e w' => ∃ r, e = .returned r ∧ Bytes w' r ([] ++ spl 32768 2 ++ spl (kind f true) 1 ++ spl (foll f true) 1) ∧ Below w.heap.size w w') := hide_ (fun v w hB => by
    rw [← e2]
    exact rnput_any v _ (foll f true) 1 w hB (by simp [spl_len2, spl_len1]) (enc_bound2 f true) (isB_spl1 _))
  have p4 := hide_ (fun v w hB => rwput_any v ([] ++ spl 32768 2 ++ spl (kind f true) 1 ++ spl (foll f true) 1) a b (fsize f : Int) w hB (by simp [spl_len2, spl_len1]) ha hb)
  have p5 := hide_ (fun v w hB => rwput_any v ([] ++ spl 32768 2 ++ spl (kind f true) 1 ++ spl (foll f true) 1 ++ wtail a b (fsize f : Int)) c d (fsize f : Int) w hB (by simp [spl_len2, spl_len1, wtail_length]; have := cl_le (fsize f : Int) 16; omega) hc hd)
  have HL : Hid ([] ++ spl 32768 2 ++ spl (kind f true) 1 ++ spl (foll f true) 1 ++ wtail a b (fsize f : Int) ++ wtail c d (fsize f : Int) = encL f true a b c d) := hide_ (by simp [encL])
  clear e1 e2
  generalize encL f true a b c d = L at *
  generalize [] ++ spl 32768 2 ++ spl (kind f true) 1 ++ spl (foll f true) 1 ++ wtail a b (fsize f : Int) ++ wtail c d (fsize f : Int) = L5 at *
  generalize [] ++ spl 32768 2 ++ spl (kind f true) 1 ++ spl (foll f true) 1 ++ wtail a b (fsize f : Int) = L4 at *
  generalize [] ++ spl 32768 2 ++ spl (kind f true) 1 ++ spl (foll f true) 1 = L3 at *
  generalize [] ++ spl 32768 2 ++ spl (kind f true) 1 = L2 at *
  generalize [] ++ spl 32768 2 = L1 at *
  generalize fid f = x at *
  generalize fsize f = s at *
  have hw1 : IntKind.i64.wrap (2 * x) = 2 * x := by rw [IntKind.wrap_i64]; omega
  have hw2 : IntKind.i64.wrap (2 * x + 1) = 2 * x + 1 := by rw [IntKind.wrap_i64]; omega
  have hw3 : IntKind.i64.wrap (2 * (s : Int)) = 2 * (s : Int) := by rw [IntKind.wrap_i64]; omega
  obtain ⟨c0, c1, c2, c3, c4, c5, -⟩ := A0.out.six
  unfold ov at *
  unfold wd at p4 p5
  clear ha hb hc hd h hf
  go_enter Try.func45, Try.ntmps45
  go_wp2_with (first | (go_at_call 66; refine (q1.out _).mono ?_; rintro e w1 ⟨rfl, k1⟩; obtain ⟨y10, y11, y12, y13, y14, y15, -⟩ := (A0.out.later k1).six) | (go_at_call 69; refine (q4.out _).mono ?_; rintro e w9 ⟨rfl, rfl⟩) | (go_at_call 70; refine (q2.out _).mono ?_; rintro e w9 ⟨rfl, rfl⟩) | (go_at_call_of 44 (Value.int IntKind.i64 32768); refine (p1.out _).mono ?_; rintro e w3 ⟨r1, rfl, h1, b3⟩; have h1 := hide_ h1; have k3 := k1.trans (b3.mono k1.size); obtain ⟨y30, y31, y32, y33, y34, y35, -⟩ := (A0.out.later k3).six) | (go_at_call_of 44 r1; refine (p2.out _ _ h1.out).mono ?_; rintro e w4 ⟨r2, rfl, h2, b4⟩; have h2 := hide_ h2; have k4 := k3.trans (b4.mono k3.size); obtain ⟨y40, y41, y42, y43, y44, y45, -⟩ := (A0.out.later k4).six) | (go_at_call_of 44 r2; refine (p3.out _ _ h2.out).mono ?_; rintro e w6 ⟨r3, rfl, h3, b6⟩; have h3 := hide_ h3; have k6 := k4.trans (b6.mono k4.size); obtain ⟨y60, y61, y62, y63, y64, y65, -⟩ := (A0.out.later k6).six))
  clear y10 y11 y12 y13 y14 y15 y30 y31 y32 y33 y34 y35 y40 y41 y42 y43 y44 y45
  go_region_held3 (fun w' => w'.cell? ⟨w.heap.size, 2, none⟩ = some (.int .u64 (a : Int)) ∧ w'.cell? ⟨w.heap.size, 3, none⟩ = some (.int .u64 (b : Int)) ∧ w'.cell? ⟨w.heap.size, 4, none⟩ = some (.int .u64 (c : Int)) ∧ w'.cell? ⟨w.heap.size, 5, none⟩ = some (.int .u64 (d : Int)) ∧ Below w6.heap.size w6 w')
    (first | (with_reducible exact kN4 b8 (by assumption)) | (with_reducible exact kN4 b7 (by assumption)) | (exact ⟨y62, y63, y64, y65, (Below.refl _ _).drew⟩))
    (first | (go_at_call_of 71 r3; refine (p4.out _ _ (h3.out.later (Below.refl _ _).drew)).mono ?_; rintro e w7 ⟨r4, rfl, h7, b7⟩; have h7 := hide_ h7) | (go_at_call_of 71 r4; refine (p5.out _ _ h7.out).mono ?_; rintro e w8 ⟨r5, rfl, h8, b8⟩; have h8 := hide_ h8))
  rename_i hH
  have j8 := hH.2.2.2.2
  clear hH
  have k8 := k6.trans (j8.mono k6.size)
  go_wp2_with fail
  go_ret2
  exact ⟨_, rfl, by rw [← HL.out]; exact h8.out, B0.out.trans (k8.mono B0.out.size)⟩


end Go.Proofs.Ytadgppedodlgmaa
