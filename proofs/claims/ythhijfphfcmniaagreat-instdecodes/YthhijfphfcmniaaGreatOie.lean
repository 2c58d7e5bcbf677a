import Derived.Test.YthhijfphfcmniaaGreatOce
import Derived.Test.YthhijfphfcmniaaGreatOge
import Derived.Test.YthhijfphfcmniaaGreatOze
import Derived.Deep.RegionHeld3
import Derived.Deep.RegionWith
import Derived.Deep.MidRow
import Derived.Deep.Cut
set_option maxRecDepth 100000
set_option maxHeartbeats 8000000
set_option linter.unusedVariables false
set_option linter.unusedSimpArgs false
namespace Go.Proofs.YthhijfphfcmniaaGreat
open Go Go.RowKit
theorem oenc_yes0 (f : Int) (a b c d : Nat) (w : World) (ha : a < 18446744073709551616) (hb : b < 18446744073709551616) (hc : c < 18446744073709551616) (hd : d < 18446744073709551616) (h : rgt f false a b c d = true) :
    Calls Tryz.prog 140 #[ov f false a b c d] w fun e w' => ∃ r, e = .returned (.tuple #[r, .int .i64 0]) ∧ Bytes w' r (encL f false a b c d) ∧ Below w.heap.size w w' := by
  have hf := rgt_fok h
  have A0 := h_ (AB.at0 w 59 [.int .i64 f, .bool false, .int .u64 (a : Int), .int .u64 (b : Int), .int .u64 (c : Int), .int .u64 (d : Int)])
  have B0 := h_ (below1 w (.cells #[.int .i64 f, .bool false, .int .u64 (a : Int), .int .u64 (b : Int), .int .u64 (c : Int), .int .u64 (d : Int)] 59))
  have q1 := fun w => oright_any f false a b c d w ha hb hc hd
  rw [h] at q1
  have q1 := h_ q1
  have q2 := h_ (fun w => fid_any f w)
  have q3 : Hid (∀ w, Calls Tryz.prog 164 #[ov f false a b c d] w fun e w' => e = .returned (.int .i64 ((fsize f : Int))) ∧ Below w.heap.size w w') := h_ (fun w => follow_any f false a b c d w)
  have q4 := h_ (fun w => fsize_any f w)
  have hs := fsize_le f
  obtain ⟨hx1, hx2⟩ := fid_range f hf
  have p1 := h_ (fun w => nput_any (.slice none 0 0) [] 32768 2 w (Bytes.nil w) (by simp) (by decide) (isB_spl2 _))
  have e1 : kind f false = 2 * fid f := rfl
  have e2 : foll f false = (fsize f : Int) := rfl
  have p2 : Hid (∀ v w, Bytes w v ([] ++ spl 32768 2) → Calls Tryz.prog 73 #[v, .int .i64 (2 * fid f), .int .i64 1] w fun e w' => ∃ r, e = .returned r ∧ Bytes w' r ([] ++ spl 32768 2 ++ spl (kind f false) 1) ∧ Below w.heap.size w w') := h_ (fun v w hB => by
    rw [← e1]
    exact nput_any v _ (kind f false) 1 w hB (by simp [spl_len2]) (enc_bound1 f false hf) (isB_spl1 _))
  have p3 : Hid (∀ v w, Bytes w v ([] ++ spl 32768 2 ++ spl (kind f false) 1) → Calls Tryz.prog 73 #[v, .int .i64 ((fsize f : Int)), .int .i64 1] w fun e w' => ∃ r, e = .returned r ∧ Bytes w' r ([] ++ spl 32768 2 ++ spl (kind f false) 1 ++ spl (foll f false) 1) ∧ Below w.heap.size w w') := h_ (fun v w hB => by
    rw [← e2]
    exact nput_any v _ (foll f false) 1 w hB (by simp [spl_len2, spl_len1]) (enc_bound2 f false) (isB_spl1 _))
  have p4 := h_ (fun v w hB => wput_any v ([] ++ spl 32768 2 ++ spl (kind f false) 1 ++ spl (foll f false) 1) a b (fsize f : Int) w hB (by simp [spl_len2, spl_len1]) ha hb)
  have p5 := h_ (fun v w hB => wput_any v ([] ++ spl 32768 2 ++ spl (kind f false) 1 ++ spl (foll f false) 1 ++ wtail a b (fsize f : Int)) c d (fsize f : Int) w hB (by simp [spl_len2, spl_len1, wtail_length]; have := cl_le (fsize f : Int) 16; omega) hc hd)
  have HL : Hid ([] ++ spl 32768 2 ++ spl (kind f false) 1 ++ spl (foll f false) 1 ++ wtail a b (fsize f : Int) = encL f false a b c d) := h_ (by simp [encL])
  clear e1 e2
  generalize encL f false a b c d = L at *
  generalize [] ++ spl 32768 2 ++ spl (kind f false) 1 ++ spl (foll f false) 1 ++ wtail a b (fsize f : Int) ++ wtail c d (fsize f : Int) = L5 at *
  generalize [] ++ spl 32768 2 ++ spl (kind f false) 1 ++ spl (foll f false) 1 ++ wtail a b (fsize f : Int) = L4 at *
  generalize [] ++ spl 32768 2 ++ spl (kind f false) 1 ++ spl (foll f false) 1 = L3 at *
  generalize [] ++ spl 32768 2 ++ spl (kind f false) 1 = L2 at *
  generalize [] ++ spl 32768 2 = L1 at *
  generalize fid f = x at *
  generalize fsize f = s at *
  have hw1 : IntKind.i64.wrap (2 * x) = 2 * x := by rw [IntKind.wrap_i64]; omega
  have hw2 : IntKind.i64.wrap (2 * x + 1) = 2 * x + 1 := by rw [IntKind.wrap_i64]; omega
  obtain ⟨c0, c1, c2, c3, c4, c5, -⟩ := A0.out.six
  unfold ov at *
  unfold wd at p4 p5
  clear ha hb hc hd h hf
  go_enter Tryz.func140, Tryz.ntmps140
  go_wp2_with (first | (go_at_call 139; refine (q1.out _).mono ?_; rintro e w1 ⟨rfl, k1⟩; obtain ⟨y10, y11, y12, y13, y14, y15, -⟩ := (A0.out.later k1).six) | (go_at_call 163; refine (q2.out _).mono ?_; rintro e w2 ⟨rfl, b2⟩; have k2 := k1.trans (b2.mono k1.size); obtain ⟨y20, y21, y22, y23, y24, y25, -⟩ := (A0.out.later k2).six) | (go_at_call_of 73 (Value.int IntKind.i64 32768); refine (p1.out _).mono ?_; rintro e w3 ⟨r1, rfl, h1, b3⟩; have h1 := h_ h1; have k3 := k2.trans (b3.mono k2.size); obtain ⟨y30, y31, y32, y33, y34, y35, -⟩ := (A0.out.later k3).six) | (go_at_call_of 73 r1; refine (p2.out _ _ h1.out).mono ?_; rintro e w4 ⟨r2, rfl, h2, b4⟩; have h2 := h_ h2; have k4 := k3.trans (b4.mono k3.size); obtain ⟨y40, y41, y42, y43, y44, y45, -⟩ := (A0.out.later k4).six) | (go_at_call 164; refine (q3.out _).mono ?_; rintro e w5 ⟨rfl, b5⟩; have h2b := h_ (h2.out.later b5); have k5 := k4.trans (b5.mono k4.size); obtain ⟨y50, y51, y52, y53, y54, y55, -⟩ := (A0.out.later k5).six) | (go_at_call_of 73 r2; refine (p3.out _ _ h2b.out).mono ?_; rintro e w6 ⟨r3, rfl, h3, b6⟩; have h3 := h_ h3; have k6 := k5.trans (b6.mono k5.size); obtain ⟨y60, y61, y62, y63, y64, y65, -⟩ := (A0.out.later k6).six))
  obtain ⟨g0, g1, g2, g3, g4, g5, -⟩ := (A0.out.later k6).six
  go_region_held3 (fun w' => w'.cell? ⟨w.heap.size, 2, none⟩ = some (.int .u64 (a : Int)) ∧ w'.cell? ⟨w.heap.size, 3, none⟩ = some (.int .u64 (b : Int)) ∧ w'.cell? ⟨w.heap.size, 0, none⟩ = some (.int .i64 f) ∧ Below w6.heap.size w6 w')
    (first | (with_reducible exact kN3 b8 (by assumption)) | (with_reducible exact kN3 b7 (by assumption)) | (exact ⟨g2, g3, g0, (Below.refl _ _).drew⟩))
    (first | (go_at_call 165; refine (q4.out _).mono ?_; rintro e w7 ⟨rfl, b7⟩; have hx7 := h_ ((h3.out.later (Below.refl _ _).drew).later b7)) | (go_at_call 107; refine (p4.out _ _ hx7.out).mono ?_; rintro e w8 ⟨r4, rfl, h8, b8⟩; have h8 := h_ h8))
  rename_i hH
  have j8 := hH.2.2.2
  clear hH g0 g1 g2 g3 g4 g5
  have k8 := k6.trans (j8.mono k6.size)
  clear y10 y11 y12 y13 y14 y15 y20 y21 y22 y23 y24 y25 y30 y31 y32 y33 y34 y35 y40 y41 y42 y43 y44 y45 y50 y51 y52 y53 y54 y55 y60 y61 y62 y63 y64 y65
  obtain ⟨g0, g1, g2, g3, g4, g5, -⟩ := (A0.out.later k8).six
  go_wp2_with fail
  go_ret2
  exact ⟨_, rfl, by rw [← HL.out]; exact h8.out, B0.out.trans (k8.mono B0.out.size)⟩
end Go.Proofs.YthhijfphfcmniaaGreat
namespace Go.Proofs.YthhijfphfcmniaaGreat
open Go Go.RowKit
end Go.Proofs.YthhijfphfcmniaaGreat
namespace Go.Proofs.YthhijfphfcmniaaGreat
open Go Go.RowKit
theorem encL_ok {f : Int} {m : Bool} {a b c d : Nat} (ha : a < 18446744073709551616) (hb : b < 18446744073709551616) (hc : c < 18446744073709551616) (hd : d < 18446744073709551616) (h : rgt f m a b c d = true) : (encL f m a b c d).length ≤ 1000 ∧ isB (encL f m a b c d) := by
  obtain ⟨hf, -⟩ := rgt_parts h
  obtain ⟨h1, h2⟩ := fid_range f hf
  have e := encL_cons f m a b c d [] hf
  rw [List.append_nil, List.append_nil] at e
  rw [e]
  have hs := fsize_le f
  have w1 := wtail_len a b f
  have w2 := wtail_len c d f
  have i1 := isB_wtail a b (fsize f) ha hb
  have i2 := isB_wtail c d (fsize f) hc hd
  constructor
  · simp only [List.length_cons, List.length_append, w1]
    cases m
    · simp only [mtail, List.length_nil]; omega
    · simp only [mtail, w2]; omega
  · intro z hz
    have hk : 0 ≤ kind f m ∧ kind f m ≤ 255 := by unfold kind; cases m <;> dsimp only <;> omega
    have hl : 0 ≤ foll f m ∧ foll f m ≤ 255 := by unfold foll; cases m <;> dsimp only <;> omega
    simp only [List.mem_cons, List.mem_append] at hz
    rcases hz with rfl | rfl | rfl | rfl | hz | hz
    · constructor <;> omega
    · constructor <;> omega
    · constructor <;> omega
    · constructor <;> omega
    · exact i1 z hz
    · cases m
      · cases hz
      · exact i2 z hz
end Go.Proofs.YthhijfphfcmniaaGreat
